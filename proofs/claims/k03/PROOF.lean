import PyProof.Rows.All
import Wide.All
import OpenK.AllK
import Wide.FinOn
import HandS.ForMost
import HandS.More
import HandS.Exc
import HandS.ExcInit
import HandS.TryOnly
import HandS.WordsExc
import HandS.CallSlots
import HandS.Wide
import HandS.Deep
import HandS.Flow
import HandS.Zip
import HandS.Evl
import HandS.SetKeys
import PyProof.Rows.RuleB_pow
import HandS.TupAny
import HandS.TupLe
import HandS.IsInst
import PyProof.ReprReads
import HandS.RaiseMore
import HandS.Defaults
import HandS.ExcOwn
import HandS.WideBits
import PyProof.ReprRoads
import HandS.StrMore
import HandS.DictComp
import HandS.Style
import HandS.ExcField
import HandS.Strs
import HandS.Ends
import HandS.HeadEnd
import HandS.HeadHook1
import HandS.HeadHook2
import HandS.HeadHook3
import HandS.HeadHook4
import PySem.Challenge.RW_fewprobes_k03_whole_edges
import PyProof.ReprLen
import HandS.Head0
import HandS.Head1
import HandS.Head2
set_option Elab.async false
set_option linter.all false
set_option maxRecDepth 100000
set_option autoImplicit false
/-! Pi: a small interpreter over data for the program's Python, and the state relation. -/
namespace Pi
open PySem PySem.Spec PyProof.Rows L2

abbrev D := PyData
abbrev Kf := PySem.W.Frag

def keyD : Key → D
  | .inl i => .int i
  | .inr x => .str x

mutual
/-- the value v is the datum d, by what F tells of the heap -/
inductive Rp (K : Kf) (F : Hp) : V → D → Prop
  | non : Rp K F .non .none
  | bl (b : Bool) : Rp K F (.bl b) (.bool b)
  | int (i : Int) : Rp K F (.int i) (.int i)
  | str (x : Str) : Rp K F (.str x) (.str x)
  | lst {a : Addr} {xs : List V} {ds : List D} : SqL K F a xs → RpA K F xs ds → Rp K F (.ref a) (.list ds)
  | tup {a : Addr} {xs : List V} {ds : List D} : SqT K F a xs → RpA K F xs ds → Rp K F (.ref a) (.tuple ds)
  | dic {a : Addr} {kvs : List (Key × V)} {ds : List (D × D)} : F a = some (.dK kvs) → RpK K F kvs ds → Rp K F (.ref a) (.dict ds)
inductive RpA (K : Kf) (F : Hp) : List V → List D → Prop
  | nil : RpA K F [] []
  | cons {v : V} {vs : List V} {d : D} {ds : List D} : Rp K F v d → RpA K F vs ds → RpA K F (v :: vs) (d :: ds)
inductive RpK (K : Kf) (F : Hp) : List (Key × V) → List (D × D) → Prop
  | nil : RpK K F [] []
  | cons {k : Key} {v : V} {d : D} {r : List (Key × V)} {s : List (D × D)} : Rp K F v d → RpK K F r s → RpK K F ((k, v) :: r) ((keyD k, d) :: s)
end

abbrev Ex := Evl.Ex
section
variable {K : Kf} {F G : Hp}
mutual
theorem Rp.mono (e : Ex F G) : ∀ (d : D) (v : V), Rp K F v d → Rp K G v d
  | .none, _, h => by cases h; exact .non
  | .bool _, _, h => by cases h; exact .bl _
  | .int _, _, h => by cases h; exact .int _
  | .str _, _, h => by cases h; exact .str _
  | .list ds, _, h => by cases h with | lst a b => exact .lst (Evl.ex_l e a) (RpA.mono e ds _ b)
  | .tuple ds, _, h => by cases h with | tup a b => exact .tup (Evl.ex_t e a) (RpA.mono e ds _ b)
  | .dict ds, _, h => by cases h with | dic a b => exact .dic (e _ _ a) (RpK.mono e ds _ b)
theorem RpA.mono (e : Ex F G) : ∀ (ds : List D) (vs : List V), RpA K F vs ds → RpA K G vs ds
  | [], _, h => by cases h; exact .nil
  | d :: ds, _, h => by cases h with | cons a b => exact .cons (Rp.mono e d _ a) (RpA.mono e ds _ b)
theorem RpK.mono (e : Ex F G) : ∀ (ds : List (D × D)) (vs : List (Key × V)), RpK K F vs ds → RpK K G vs ds
  | [], _, h => by cases h; exact .nil
  | (_, d) :: ds, _, h => by cases h with | cons a b => exact .cons (Rp.mono e d _ a) (RpK.mono e ds _ b)
end
theorem Rp.up {v : V} {d : D} (h : Rp K F v d) (e : Ex F G) : Rp K G v d := Rp.mono e d v h
theorem RpA.up {v : List V} {d : List D} (h : RpA K F v d) (e : Ex F G) : RpA K G v d := RpA.mono e d v h
theorem RpA.len {vs : List V} {ds : List D} (h : RpA K F vs ds) : vs.length = ds.length := by
  induction vs generalizing ds with
  | nil => cases h; rfl
  | cons v vs ih => cases h with | cons a b => simp [ih b]
theorem RpA.app {vs ws : List V} {ds es : List D} (h : RpA K F vs ds) (g : RpA K F ws es) : RpA K F (vs ++ ws) (ds ++ es) := by
  induction vs generalizing ds with
  | nil => cases h; exact g
  | cons v vs ih => cases h with | cons a b => exact .cons a (ih b)
theorem RpA.get {vs : List V} {ds : List D} (h : RpA K F vs ds) {i : Nat} {v : V} (e : vs[i]? = some v) : ∃ d, ds[i]? = some d ∧ Rp K F v d := by
  induction vs generalizing ds i with
  | nil => simp at e
  | cons w vs ih =>
    cases h with
    | cons a b =>
      cases i with
      | zero => simp at e; subst e; exact ⟨_, rfl, a⟩
      | succ i => simpa using ih b (by simpa using e)
theorem RpA.getD {vs : List V} {ds : List D} (h : RpA K F vs ds) {i : Nat} {d : D} (e : ds[i]? = some d) : ∃ v, vs[i]? = some v ∧ Rp K F v d := by
  induction vs generalizing ds i with
  | nil => cases h; simp at e
  | cons w vs ih =>
    cases h with
    | cons a b =>
      cases i with
      | zero => simp at e; subst e; exact ⟨_, rfl, a⟩
      | succ i => simpa using ih b (by simpa using e)
theorem RpA.drop {vs : List V} {ds : List D} (h : RpA K F vs ds) (n : Nat) : RpA K F (vs.drop n) (ds.drop n) := by
  induction n generalizing vs ds with
  | zero => exact h
  | succ n ih =>
    cases h with
    | nil => exact .nil
    | cons a b => exact ih b
theorem RpA.take {vs : List V} {ds : List D} (h : RpA K F vs ds) (n : Nat) : RpA K F (vs.take n) (ds.take n) := by
  induction n generalizing vs ds with
  | zero => exact .nil
  | succ n ih =>
    cases h with
    | nil => exact .nil
    | cons a b => exact .cons a (ih b)
theorem RpA.set {vs : List V} {ds : List D} (h : RpA K F vs ds) (i : Nat) {v : V} {d : D} (g : Rp K F v d) : RpA K F (vs.set i v) (ds.set i d) := by
  induction vs generalizing ds i with
  | nil => cases h; exact .nil
  | cons w vs ih =>
    cases h with
    | cons a b =>
      cases i with
      | zero => exact .cons g b
      | succ i => exact .cons a (ih b i)
theorem RpA.eraseIdx {vs : List V} {ds : List D} (h : RpA K F vs ds) (i : Nat) : RpA K F (vs.eraseIdx i) (ds.eraseIdx i) := by
  induction vs generalizing ds i with
  | nil => cases h; exact .nil
  | cons w vs ih =>
    cases h with
    | cons a b =>
      cases i with
      | zero => exact b
      | succ i => exact .cons a (ih b i)
end

/-! ### slots, environments -/
/-- what an object that may change holds -/
inductive Mc where
  | l (xs : List D)
  | s (ks : List Key)
/-- where the defs stand; the program, the world -/
structure Fs where
  f : Str → Addr
  P : Program
  w : World
instance : CoeFun Fs (fun _ => Str → Addr) := ⟨Fs.f⟩
/-- what a name holds: a datum; a list of its own (which may change); a list of the caller's; a set of its own; a def -/
inductive Slot where
  | val (x : D)
  | lst (xs : List D)
  | bor (xs : List D)
  | set (ks : List Key)
  | fn (f : Str)
abbrev PEnv := List (Option Slot)
def Slot.mut? : Slot → Option Mc
  | .lst xs => some (.l xs)
  | .bor xs => some (.l xs)
  | .set ks => some (.s ks)
  | _ => none
def Slot.list? : Slot → Option (List D)
  | .lst xs => some xs
  | .bor xs => some xs
  | _ => none
theorem Slot.list_mut {s : Slot} {xs : List D} (h : s.list? = some xs) : s.mut? = some (.l xs) := by
  cases s with
  | lst ys => cases h; rfl
  | bor ys => cases h; rfl
  | _ => cases h
def Slot.put (s : Slot) (xs : List D) : Slot := match s with
  | .lst _ => .lst xs
  | .bor _ => .bor xs
  | s => s
/-- what an expression gives: a datum; the list that slot i holds; a new list; a def -/
inductive Val where
  | d (x : D)
  | own (i : Nat)
  | new (xs : List D)
  | fn (f : Str)

/-- slot i holds an object that may change -/
def Mu (env : PEnv) (i : Nat) (xs : Mc) : Prop := ∃ s, env[i]? = some (some s) ∧ s.mut? = some xs
def MA (env : PEnv) (σ : L2.St) (a : Addr) : Prop := ∃ (i : Nat) (xs : Mc), Mu env i xs ∧ σ[i]? = some (some (.ref a))
def McR (K : Kf) (fa : Fs) (F : Hp) (a : Addr) (o : HO) : Mc → Prop
  | .l xs => ∃ vs, o = .lst vs ∧ RpA K F vs xs
  | .s ks => ∃ n, o = SetK fa.P fa.w a (fun k => ks.any fun j => decide (j = k)) n ∧ n ≤ ks.length
theorem McR.up {K : Kf} {fa : Fs} {F G : Hp} {a : Addr} {o : HO} {c : Mc} (h : McR K fa F a o c) (e : Ex F G) : McR K fa G a o c := by
  cases c with
  | l xs => obtain ⟨vs, h1, h2⟩ := h; exact ⟨vs, h1, h2.up e⟩
  | s ks => exact h

def SRel (K : Kf) (fa : Fs) (F H : Hp) (v : V) : Slot → Prop
  | .val x => Rp K F v x
  | .lst xs => ∃ a vs, v = .ref a ∧ H a = some (.lst vs) ∧ F a = none ∧ RpA K F vs xs
  | .bor xs => ∃ a vs, v = .ref a ∧ H a = some (.lst vs) ∧ F a = none ∧ RpA K F vs xs
  | .set ks => ∃ a o, v = .ref a ∧ H a = some o ∧ F a = none ∧ McR K fa F a o (.s ks)
  | .fn f => v = .ref (fa f)
theorem SRel.mu {K : Kf} {fa : Fs} {F H : Hp} {v : V} {s : Slot} {xs : Mc} (h : SRel K fa F H v s) (m : s.mut? = some xs) : ∃ a vs, v = .ref a ∧ H a = some vs ∧ F a = none ∧ McR K fa F a vs xs := by
  cases s with
  | val x => cases m
  | fn f => cases m
  | lst ys => cases m; obtain ⟨a, vs, h1, h2, h3, h4⟩ := h; exact ⟨a, _, h1, h2, h3, vs, rfl, h4⟩
  | bor ys => cases m; obtain ⟨a, vs, h1, h2, h3, h4⟩ := h; exact ⟨a, _, h1, h2, h3, vs, rfl, h4⟩
  | set ks => cases m; exact h
theorem SRel.of_mu {K : Kf} {fa : Fs} {F H : Hp} {v : V} {s : Slot} {xs : Mc} (m : s.mut? = some xs) (h : ∃ a vs, v = .ref a ∧ H a = some vs ∧ F a = none ∧ McR K fa F a vs xs) : SRel K fa F H v s := by
  cases s with
  | val x => cases m
  | fn f => cases m
  | lst ys => cases m; obtain ⟨a, o, h1, h2, h3, vs, rfl, h4⟩ := h; exact ⟨a, vs, h1, h2, h3, h4⟩
  | bor ys => cases m; obtain ⟨a, o, h1, h2, h3, vs, rfl, h4⟩ := h; exact ⟨a, vs, h1, h2, h3, h4⟩
  | set ks => cases m; exact h
theorem SRel.list {K : Kf} {fa : Fs} {F H : Hp} {v : V} {s : Slot} {xs : List D} (h : SRel K fa F H v s) (m : s.list? = some xs) : ∃ a vs, v = .ref a ∧ H a = some (.lst vs) ∧ F a = none ∧ RpA K F vs xs := by
  cases s with
  | lst ys => cases m; exact h
  | bor ys => cases m; exact h
  | _ => cases m

structure Rel (K : Kf) (fa : Fs) (F H : Hp) (env : PEnv) (σ : L2.St) : Prop where
  ex : Ex F H
  len : env.length = σ.length
  at_ : ∀ (i : Nat) (s : Slot), env[i]? = some (some s) → ∃ v, σ[i]? = some (some v) ∧ SRel K fa F H v s
  dis : ∀ (i j : Nat) (xs ys : Mc), i ≠ j → Mu env i xs → Mu env j ys → σ[i]? ≠ σ[j]?

structure Adv (M : Addr → Prop) (F H F' H' : Hp) : Prop where
  fz : Ex F F'
  dom : ∀ a, H a ≠ none → H' a ≠ none
  fresh : ∀ a, F a = none → H a ≠ none → ¬ M a → F' a = none
  keep : ∀ a o, H a = some o → ¬ M a → H' a = some o
theorem Adv.refl {M : Addr → Prop} {F H : Hp} : Adv M F H F H := ⟨Evl.Ex.refl _, fun _ h => h, fun _ h _ _ => h, fun _ _ h _ => h⟩
theorem Adv.trans {M N : Addr → Prop} {F H F1 H1 F2 H2 : Hp} (a : Adv M F H F1 H1) (b : Adv N F1 H1 F2 H2) (h : ∀ x, N x → H x ≠ none → M x) : Adv M F H F2 H2 :=
  ⟨a.fz.trans b.fz, fun x q => b.dom x (a.dom x q), fun x p q m => b.fresh x (a.fresh x p q m) (a.dom x q) fun z => m (h x z q), fun x o p q => b.keep x o (a.keep x o p q) fun z => q (h x z (by rw [p]; simp))⟩

/-- from one state of an expression to the next -/
structure Nx (K : Kf) (fa : Fs) (σ : L2.St) (env : PEnv) (F H : Hp) (env' : PEnv) (F' H' : Hp) : Prop where
  rel : Rel K fa F' H' env' σ
  adv : Adv (MA env σ) F H F' H'
  sub : ∀ a, MA env' σ a → MA env σ a
  bor : ∀ (i : Nat) (xs : List D), env[i]? = some (some (.bor xs)) → ∃ ys, env'[i]? = some (some (.bor ys))
section
variable {K : Kf} {fa : Fs} {σ : L2.St} {env env1 env2 : PEnv} {F H F1 H1 F2 H2 : Hp}
theorem Nx.refl (r : Rel K fa F H env σ) : Nx K fa σ env F H env F H := ⟨r, Adv.refl, fun _ h => h, fun _ xs h => ⟨xs, h⟩⟩
theorem Nx.trans (a : Nx K fa σ env F H env1 F1 H1) (b : Nx K fa σ env1 F1 H1 env2 F2 H2) : Nx K fa σ env F H env2 F2 H2 :=
  ⟨b.rel, a.adv.trans b.adv fun x h _ => a.sub x h, fun x h => a.sub x (b.sub x h), fun i xs h => let ⟨ys, q⟩ := a.bor i xs h; b.bor i ys q⟩
/-- a new object that is known from now on -/
theorem Rel.laid (r : Rel K fa F H env σ) {p : Addr} {o : HO} (hp : H p = none) : Nx K fa σ env F H env (upd F p o) (upd H p o) := by
  have fp : F p = none := by
    cases q : F p with
    | none => rfl
    | some u => rw [r.ex p u q] at hp; cases hp
  have ne : ∀ {a : Addr} {u : HO}, H a = some u → a ≠ p := fun h => ne_of_none h hp
  refine ⟨⟨fun a u h => ?_, r.len, fun i s e => ?_, r.dis⟩, ⟨fun a u h => ?_, fun a h => ?_, fun a h1 h2 _ => ?_, fun a u h _ => ?_⟩, fun _ h => h, fun _ xs h => ⟨xs, h⟩⟩
  · by_cases z : a = p
    · subst z; rw [upd_same] at h ⊢; exact h
    · rw [upd_ne z] at h ⊢; exact r.ex a u h
  · obtain ⟨v, hv, hs⟩ := r.at_ i s e
    refine ⟨v, hv, ?_⟩
    cases hm : s.mut? with
    | some xs =>
      obtain ⟨a, vs, h1, h2, h3, h4⟩ := hs.mu hm
      exact SRel.of_mu hm ⟨a, vs, h1, by rw [upd_ne (ne h2)]; exact h2, by rw [upd_ne (ne h2)]; exact h3, h4.up (Evl.Ex.new fp)⟩
    | none =>
      cases s with
      | val x => exact Rp.up (show Rp K F v x from hs) (Evl.Ex.new fp)
      | fn f => exact hs
      | lst xs => cases hm
      | bor xs => cases hm
      | set xs => cases hm
  · exact Evl.Ex.new fp a u h
  · by_cases z : a = p
    · subst z; exact absurd hp h
    · rw [upd_ne z]; exact h
  · have z : a ≠ p := fun z => h2 (by rw [z]; exact hp)
    rw [upd_ne z]; exact h1
  · rw [upd_ne (ne h)]; exact h
/-- a new list that is not known yet -/
theorem Rel.laidN (r : Rel K fa F H env σ) {p : Addr} {o : HO} (hp : H p = none) : Nx K fa σ env F H env F (upd H p o) := by
  have ne : ∀ {a : Addr} {u : HO}, H a = some u → a ≠ p := fun h => ne_of_none h hp
  refine ⟨⟨fun a u h => ?_, r.len, fun i s e => ?_, r.dis⟩, ⟨Evl.Ex.refl _, fun a h => ?_, fun a h1 h2 _ => h1, fun a u h _ => ?_⟩, fun _ h => h, fun _ xs h => ⟨xs, h⟩⟩
  · rw [upd_ne (ne (r.ex a u h))]; exact r.ex a u h
  · obtain ⟨v, hv, hs⟩ := r.at_ i s e
    refine ⟨v, hv, ?_⟩
    cases hm : s.mut? with
    | some xs =>
      obtain ⟨a, vs, h1, h2, h3, h4⟩ := hs.mu hm
      exact SRel.of_mu hm ⟨a, vs, h1, by rw [upd_ne (ne h2)]; exact h2, h3, h4⟩
    | none =>
      cases s with
      | val x => exact hs
      | fn f => exact hs
      | lst xs => cases hm
      | bor xs => cases hm
      | set xs => cases hm
  · by_cases z : a = p
    · subst z; exact absurd hp h
    · rw [upd_ne z]; exact h
  · rw [upd_ne (ne h)]; exact h
end

/-- a frozen value -/
def VRel (K : Kf) (fa : Fs) (σ : L2.St) (F : Hp) (v : V) : Val → Prop
  | .d x => Rp K F v x
  | .own i => σ[i]? = some (some v)
  | .new _ => False
  | .fn f => v = .ref (fa f)
/-- any value, behind a run that began at the heap H -/
def PV (K : Kf) (fa : Fs) (σ : L2.St) (H F' H' : Hp) (v : V) : Val → Prop
  | .new xs => ∃ a vs, v = .ref a ∧ H a = none ∧ H' a = some (.lst vs) ∧ F' a = none ∧ RpA K F' vs xs
  | r => VRel K fa σ F' v r
def Val.frz : Val → Val
  | .new xs => .d (.list xs)
  | r => r
section
variable {K : Kf} {fa : Fs} {σ : L2.St} {env env1 env2 : PEnv} {F H F1 H1 F2 H2 : Hp} {v : V} {r : Val}
theorem VRel.up (h : VRel K fa σ F v r) (e : Ex F F1) : VRel K fa σ F1 v r := by
  cases r with
  | d x => exact Rp.up (show Rp K F v x from h) e
  | own i => exact h
  | new xs => exact h.elim
  | fn f => exact h
/-- a value may be known from now on -/
theorem Nx.frz (n : Nx K fa σ env F H env1 F1 H1) (h : PV K fa σ H F1 H1 v r) (nm : ∀ a, MA env σ a → H a ≠ none) : ∃ F2, Nx K fa σ env F H env1 F2 H1 ∧ VRel K fa σ F2 v r.frz := by
  cases r with
  | d x => exact ⟨F1, n, h⟩
  | own i => exact ⟨F1, n, h⟩
  | fn f => exact ⟨F1, n, h⟩
  | new xs =>
    obtain ⟨a, vs, rfl, ha, hb, hc, hd⟩ := h
    have ex : Ex F1 (upd F1 a (.lst vs)) := Evl.Ex.new hc
    have nf : F a = none := by
      cases q : F a with
      | none => rfl
      | some u => rw [n.adv.fz a u q] at hc; cases hc
    refine ⟨upd F1 a (.lst vs), ⟨⟨fun b u q => ?_, n.rel.len, fun i s e => ?_, n.rel.dis⟩, ⟨n.adv.fz.trans ex, n.adv.dom, fun b q1 q2 q3 => ?_, n.adv.keep⟩, n.sub, n.bor⟩, ?_⟩
    · by_cases z : b = a
      · subst z; rw [upd_same] at q; cases q; exact hb
      · rw [upd_ne z] at q; exact n.rel.ex b u q
    · obtain ⟨w, hw, hs⟩ := n.rel.at_ i s e
      refine ⟨w, hw, ?_⟩
      cases hm : s.mut? with
      | some ys =>
        obtain ⟨b, ws, h1, h2, h3, h4⟩ := hs.mu hm
        have nb : b ≠ a := fun z => by
          have m : MA env1 σ b := ⟨i, ys, ⟨s, e, hm⟩, by rw [hw, h1]⟩
          have := nm b (n.sub b m)
          rw [z] at this; exact this ha
        exact SRel.of_mu hm ⟨b, ws, h1, h2, by rw [upd_ne nb]; exact h3, h4.up ex⟩
      | none =>
        cases s with
        | val x => exact Rp.up (show Rp K F1 w x from hs) ex
        | fn f => exact hs
        | lst xs => cases hm
        | bor xs => cases hm
        | set xs => cases hm
    · have z : b ≠ a := fun z => q2 (by rw [z]; exact ha)
      rw [upd_ne z]; exact n.adv.fresh b q1 q2 q3
    · exact .lst (Evl.sq_of (by rw [upd_same])) (hd.up ex)
theorem Rel.nm (r : Rel K fa F H env σ) : ∀ a, MA env σ a → H a ≠ none := fun a ⟨i, xs, ⟨s, e, hm⟩, q⟩ => by
  obtain ⟨v, hv, hs⟩ := r.at_ i s e
  obtain ⟨b, vs, h1, h2, _, _⟩ := hs.mu hm
  rw [hv] at q
  cases q
  cases h1
  rw [h2]; simp
end

/-! ### outcomes -/
inductive R (α : Type) where
  | stuck
  | ok (a : α) (env : PEnv)
  | exc (c : Str) (x : Option D) (env : PEnv)
def R.bind {α β : Type} : R α → (α → PEnv → R β) → R β
  | .stuck, _ => .stuck
  | .ok a env, f => f a env
  | .exc c x env, _ => .exc c x env

/-- the content of a frozen value -/
def cont (env : PEnv) : Val → Option D
  | .d x => some x
  | .own i => match env[i]? with
    | some (some s) => s.list?.map PyData.list
    | _ => none
  | _ => none
theorem cont_ok {K : Kf} {fa : Fs} {σ : L2.St} {env : PEnv} {F H : Hp} {v : V} {r : Val} {x : D} (rel : Rel K fa F H env σ) (h : VRel K fa σ F v r) (e : cont env r = some x) : Rp K H v x := by
  cases r with
  | d y =>
    cases e
    exact Rp.up h rel.ex
  | new xs => cases e
  | fn f => cases e
  | own i =>
    have e : (match env[i]? with | some (some s) => s.list?.map PyData.list | _ => none) = some x := e
    cases q : env[i]? with
    | none => rw [q] at e; cases e
    | some o =>
      cases o with
      | none => rw [q] at e; cases e
      | some s =>
        rw [q] at e
        cases hm : s.list? with
        | none => simp [hm] at e
        | some xs =>
          simp [hm] at e
          subst e
          obtain ⟨w, hw, hs⟩ := rel.at_ i s q
          have hv : σ[i]? = some (some v) := h
          rw [hv] at hw
          cases hw
          obtain ⟨a, vs, rfl, h2, _, h4⟩ := hs.list hm
          exact .lst (Evl.sq_of h2) (h4.up rel.ex)
end Pi


set_option Elab.async false
set_option linter.all false
set_option maxRecDepth 100000
set_option autoImplicit false
namespace Pi
open PySem PySem.Spec PyProof.Rows L2

/-- the class's address is ca c -/
structure Cfg where
  K : Kf
  fa : Fs
  ca : Str → Addr

def R.bindF {α : Type} : R Val → (Val → PEnv → R α) → R α
  | .stuck, _ => .stuck
  | .ok r env, f => f r.frz env
  | .exc c x env, _ => .exc c x env

/-- the content of an operand: a known datum, or a list that may change (its items known) -/
def Ct (K : Kf) (F H : Hp) (v : V) (x : D) : Prop := (Rp K F v x ∧ Ex F H) ∨ ∃ a vs xs, v = .ref a ∧ x = .list xs ∧ H a = some (.lst vs) ∧ RpA K F vs xs ∧ Ex F H
theorem Ct.rp {K : Kf} {F H : Hp} {v : V} {x : D} (h : Ct K F H v x) : Rp K H v x := by
  rcases h with ⟨h, e⟩ | ⟨a, vs, xs, rfl, rfl, h2, h3, e⟩
  · exact h.up e
  · exact .lst (Evl.sq_of h2) (h3.up e)
theorem Ct.list {K : Kf} {F H : Hp} {v : V} {xs : List D} (h : Ct K F H v (.list xs)) : ∃ a vs, v = .ref a ∧ SqL K H a vs ∧ RpA K F vs xs := by
  rcases h with ⟨h, e⟩ | ⟨a, vs, ys, rfl, e1, h2, h3, e⟩
  · cases h with | lst a b => exact ⟨_, _, rfl, Evl.ex_l e a, b⟩
  · cases e1; exact ⟨a, vs, rfl, Evl.sq_of h2, h3⟩
theorem Ct.tup {K : Kf} {F H : Hp} {v : V} {xs : List D} (h : Ct K F H v (.tuple xs)) : ∃ a vs, v = .ref a ∧ SqT K H a vs ∧ RpA K F vs xs ∧ SqT K F a vs := by
  rcases h with ⟨h, e⟩ | ⟨a, vs, ys, rfl, e1, h2, h3, e⟩
  · cases h with | tup a b => exact ⟨_, _, rfl, Evl.ex_t e a, b, a⟩
  · cases e1
theorem Ct.int {K : Kf} {F H : Hp} {v : V} {i : Int} (h : Ct K F H v (.int i)) : v = .int i := by
  rcases h with ⟨h, e⟩ | ⟨a, vs, ys, rfl, e1, h2, h3, e⟩
  · cases h; rfl
  · cases e1
theorem Ct.str {K : Kf} {F H : Hp} {v : V} {i : Str} (h : Ct K F H v (.str i)) : v = .str i := by
  rcases h with ⟨h, e⟩ | ⟨a, vs, ys, rfl, e1, h2, h3, e⟩
  · cases h; rfl
  · cases e1
theorem Ct.bool {K : Kf} {F H : Hp} {v : V} {i : Bool} (h : Ct K F H v (.bool i)) : v = .bl i := by
  rcases h with ⟨h, e⟩ | ⟨a, vs, ys, rfl, e1, h2, h3, e⟩
  · cases h; rfl
  · cases e1
theorem Ct.none {K : Kf} {F H : Hp} {v : V} (h : Ct K F H v .none) : v = .non := by
  rcases h with ⟨h, e⟩ | ⟨a, vs, ys, rfl, e1, h2, h3, e⟩
  · cases h; rfl
  · cases e1
theorem cont_ct {K : Kf} {fa : Fs} {σ : L2.St} {env : PEnv} {F H : Hp} {v : V} {r : Val} {x : D} (rel : Rel K fa F H env σ) (h : VRel K fa σ F v r) (e : cont env r = some x) : Ct K F H v x := by
  cases r with
  | d y => cases e; exact .inl ⟨h, rel.ex⟩
  | new xs => cases e
  | fn f => cases e
  | own i =>
    have e : (match env[i]? with | some (some s) => s.list?.map PyData.list | _ => none) = some x := e
    cases q : env[i]? with
    | none => rw [q] at e; cases e
    | some o =>
      cases o with
      | none => rw [q] at e; cases e
      | some s =>
        rw [q] at e
        cases hm : s.list? with
        | none => simp [hm] at e
        | some xs =>
          simp [hm] at e
          subst e
          obtain ⟨w, hw, hs⟩ := rel.at_ i s q
          have hv : σ[i]? = some (some v) := h
          rw [hv] at hw
          cases hw
          obtain ⟨a, vs, rfl, h2, _, h4⟩ := hs.list hm
          exact .inr ⟨a, vs, xs, rfl, rfl, h2, h4, rel.ex⟩

/-- an exception of a class, its field's value x -/
def XR (K : Kf) (F H : Hp) (d : Option Addr) (x : Option D) : Prop := ∃ dd fs, d = some dd ∧ F dd = some (.xd fs) ∧ match x with
  | none => True
  | some y => ∃ v, fs.lookup ("value" : Str) = some v ∧ Rp K F v y

section
variable (C : Cfg) (E0 : L2.St → XK)
def Post (σ : L2.St) (env : PEnv) (F H : Hp) (m : R Val) (Q : VK) : Prop := match m with
  | .stuck => False
  | .ok r env' => ∀ v F' H', Nx C.K C.fa σ env F H env' F' H' → PV C.K C.fa σ H F' H' v r → Q v H'
  | .exc c x env' => ∀ d F' H', Nx C.K C.fa σ env F H env' F' H' → XR C.K F' H' d x → E0 σ (.ref (C.ca c)) d H'
/-- the reading of a piece of code by its run -/
def tR (m : PEnv → R Val) : TE := fun σ H Q => ∃ env F, Rel C.K C.fa F H env σ ∧ Post C E0 σ env F H (m env) Q

inductive VRelA (K : Kf) (fa : Fs) (σ : L2.St) (F : Hp) : List V → List Val → Prop
  | nil : VRelA K fa σ F [] []
  | cons {v : V} {vs : List V} {r : Val} {rs : List Val} : VRel K fa σ F v r → VRelA K fa σ F vs rs → VRelA K fa σ F (v :: vs) (r :: rs)
def PostA (σ : L2.St) (env : PEnv) (F H : Hp) (m : R (List Val)) (Q : List V → Hp → Prop) : Prop := match m with
  | .stuck => False
  | .ok rs env' => ∀ vs F' H', Nx C.K C.fa σ env F H env' F' H' → VRelA C.K C.fa σ F' vs rs → Q vs H'
  | .exc c x env' => ∀ d F' H', Nx C.K C.fa σ env F H env' F' H' → XR C.K F' H' d x → E0 σ (.ref (C.ca c)) d H'
def tRA (m : PEnv → R (List Val)) : TA := fun σ H Q => ∃ env F, Rel C.K C.fa F H env σ ∧ PostA C E0 σ env F H (m env) Q
def PostT (σ : L2.St) (env : PEnv) (F H : Hp) (m : R Bool) (Q : Bool → Hp → Prop) : Prop := match m with
  | .stuck => False
  | .ok b env' => ∀ F' H', Nx C.K C.fa σ env F H env' F' H' → Q b H'
  | .exc c x env' => ∀ d F' H', Nx C.K C.fa σ env F H env' F' H' → XR C.K F' H' d x → E0 σ (.ref (C.ca c)) d H'
def tRT (m : PEnv → R Bool) : TT := fun σ H Q => ∃ env F, Rel C.K C.fa F H env σ ∧ PostT C E0 σ env F H (m env) Q
end

section
variable {C : Cfg} {E0 : L2.St → XK} {σ : L2.St} {env env1 env2 : PEnv} {F H F1 H1 F2 H2 : Hp} {v : V}
theorem VRelA.up {vs : List V} {rs : List Val} (h : VRelA C.K C.fa σ F vs rs) (e : Ex F F1) : VRelA C.K C.fa σ F1 vs rs := by
  induction h with
  | nil => exact .nil
  | cons a _ ih => exact .cons (a.up e) ih
theorem PV.start {r : Val} (n : Adv (MA env σ) F H F1 H1) (h : PV C.K C.fa σ H1 F2 H2 v r) : PV C.K C.fa σ H F2 H2 v r := by
  cases r with
  | d x => exact h
  | own i => exact h
  | fn f => exact h
  | new xs =>
    obtain ⟨a, vs, h1, h2, h3⟩ := h
    refine ⟨a, vs, h1, ?_, h3⟩
    cases q : H a with
    | none => rfl
    | some u => exact absurd h2 (n.dom a (by rw [q]; simp))
/-- from a later state on -/
theorem Post.later {m : R Val} {Q : VK} (n : Nx C.K C.fa σ env F H env1 F1 H1) (h : Post C E0 σ env F H m Q) : Post C E0 σ env1 F1 H1 m Q := by
  cases m with
  | stuck => exact h
  | ok r env2 => exact fun v F' H' k p => h v F' H' (n.trans k) (p.start n.adv)
  | exc c x env2 => exact fun d F' H' k p => h d F' H' (n.trans k) p
theorem PostA.later {m : R (List Val)} {Q : List V → Hp → Prop} (n : Nx C.K C.fa σ env F H env1 F1 H1) (h : PostA C E0 σ env F H m Q) : PostA C E0 σ env1 F1 H1 m Q := by
  cases m with
  | stuck => exact h
  | ok r env2 => exact fun v F' H' k p => h v F' H' (n.trans k) p
  | exc c x env2 => exact fun d F' H' k p => h d F' H' (n.trans k) p
theorem PostT.later {m : R Bool} {Q : Bool → Hp → Prop} (n : Nx C.K C.fa σ env F H env1 F1 H1) (h : PostT C E0 σ env F H m Q) : PostT C E0 σ env1 F1 H1 m Q := by
  cases m with
  | stuck => exact h
  | ok r env2 => exact fun F' H' k => h F' H' (n.trans k)
  | exc c x env2 => exact fun d F' H' k p => h d F' H' (n.trans k) p
/-- one expression, its value known from then on, then more -/
theorem seqE {m : R Val} {f : Val → PEnv → R Val} {Q Q' : VK} (rel : Rel C.K C.fa F H env σ) (h : Post C E0 σ env F H (m.bindF f) Q)
    (k : ∀ r env1 v F1 H1, Nx C.K C.fa σ env F H env1 F1 H1 → VRel C.K C.fa σ F1 v r → Post C E0 σ env1 F1 H1 (f r env1) Q → Q' v H1) : Post C E0 σ env F H m Q' := by
  cases m with
  | stuck => exact h
  | exc c x env2 => exact h
  | ok r env1 =>
    intro v F1 H1 n p
    obtain ⟨F2, n2, vr⟩ := n.frz p rel.nm
    exact k r.frz env1 v F2 H1 n2 vr (Post.later n2 h)
theorem seqA {m : R Val} {f : Val → PEnv → R (List Val)} {Q : List V → Hp → Prop} {Q' : VK} (rel : Rel C.K C.fa F H env σ) (h : PostA C E0 σ env F H (m.bindF f) Q)
    (k : ∀ r env1 v F1 H1, Nx C.K C.fa σ env F H env1 F1 H1 → VRel C.K C.fa σ F1 v r → PostA C E0 σ env1 F1 H1 (f r env1) Q → Q' v H1) : Post C E0 σ env F H m Q' := by
  cases m with
  | stuck => exact h
  | exc c x env2 => exact h
  | ok r env1 =>
    intro v F1 H1 n p
    obtain ⟨F2, n2, vr⟩ := n.frz p rel.nm
    exact k r.frz env1 v F2 H1 n2 vr (PostA.later n2 h)
theorem seqT {m : R Val} {f : Val → PEnv → R Bool} {Q : Bool → Hp → Prop} {Q' : VK} (rel : Rel C.K C.fa F H env σ) (h : PostT C E0 σ env F H (m.bindF f) Q)
    (k : ∀ r env1 v F1 H1, Nx C.K C.fa σ env F H env1 F1 H1 → VRel C.K C.fa σ F1 v r → PostT C E0 σ env1 F1 H1 (f r env1) Q → Q' v H1) : Post C E0 σ env F H m Q' := by
  cases m with
  | stuck => exact h
  | exc c x env2 => exact h
  | ok r env1 =>
    intro v F1 H1 n p
    obtain ⟨F2, n2, vr⟩ := n.frz p rel.nm
    exact k r.frz env1 v F2 H1 n2 vr (PostT.later n2 h)
/-- a list of expressions, then more -/
theorem seqLE {m : R (List Val)} {f : List Val → PEnv → R Val} {Q : VK} {Q' : List V → Hp → Prop} (h : Post C E0 σ env F H (m.bind f) Q)
    (k : ∀ rs env1 vs F1 H1, Nx C.K C.fa σ env F H env1 F1 H1 → VRelA C.K C.fa σ F1 vs rs → Post C E0 σ env1 F1 H1 (f rs env1) Q → Q' vs H1) : PostA C E0 σ env F H m Q' := by
  cases m with
  | stuck => exact h
  | exc c x env2 => exact h
  | ok r env1 => exact fun v F1 H1 n p => k r env1 v F1 H1 n p (Post.later n h)
theorem seqLL {m : R (List Val)} {f : List Val → PEnv → R (List Val)} {Q Q' : List V → Hp → Prop} (h : PostA C E0 σ env F H (m.bind f) Q)
    (k : ∀ rs env1 vs F1 H1, Nx C.K C.fa σ env F H env1 F1 H1 → VRelA C.K C.fa σ F1 vs rs → PostA C E0 σ env1 F1 H1 (f rs env1) Q → Q' vs H1) : PostA C E0 σ env F H m Q' := by
  cases m with
  | stuck => exact h
  | exc c x env2 => exact h
  | ok r env1 => exact fun v F1 H1 n p => k r env1 v F1 H1 n p (PostA.later n h)
theorem seqTE {m : R Bool} {f : Bool → PEnv → R Val} {Q : VK} {Q' : Bool → Hp → Prop} (h : Post C E0 σ env F H (m.bind f) Q)
    (k : ∀ b env1 F1 H1, Nx C.K C.fa σ env F H env1 F1 H1 → Post C E0 σ env1 F1 H1 (f b env1) Q → Q' b H1) : PostT C E0 σ env F H m Q' := by
  cases m with
  | stuck => exact h
  | exc c x env2 => exact h
  | ok r env1 => exact fun F1 H1 n => k r env1 F1 H1 n (Post.later n h)
theorem seqTT {m : R Bool} {f : Bool → PEnv → R Bool} {Q Q' : Bool → Hp → Prop} (h : PostT C E0 σ env F H (m.bind f) Q)
    (k : ∀ b env1 F1 H1, Nx C.K C.fa σ env F H env1 F1 H1 → PostT C E0 σ env1 F1 H1 (f b env1) Q → Q' b H1) : PostT C E0 σ env F H m Q' := by
  cases m with
  | stuck => exact h
  | exc c x env2 => exact h
  | ok r env1 => exact fun F1 H1 n => k r env1 F1 H1 n (PostT.later n h)

/-! ### ends -/
theorem Post.here {r : Val} {Q : VK} (rel : Rel C.K C.fa F H env σ) (h : Post C E0 σ env F H (.ok r env) Q) (vr : VRel C.K C.fa σ F v r) : Q v H := by
  refine h v F H (Nx.refl rel) ?_
  cases r with
  | new xs => exact vr.elim
  | d x => exact vr
  | own i => exact vr
  | fn f => exact vr
theorem Post.newList {xs : List D} {vs : List V} {Q : VK} (rel : Rel C.K C.fa F H env σ) (h : Post C E0 σ env F H (.ok (.new xs) env) Q) (a : RpA C.K F vs xs) {p : Addr} (hp : H p = none) : Q (.ref p) (upd H p (.lst vs)) := by
  have fp : F p = none := by
    cases q : F p with
    | none => rfl
    | some u => rw [rel.ex p u q] at hp; cases hp
  exact h _ F _ (rel.laidN hp) ⟨p, vs, rfl, hp, upd_same, fp, a⟩
theorem Post.newTup {xs : List D} {vs : List V} {Q : VK} (rel : Rel C.K C.fa F H env σ) (h : Post C E0 σ env F H (.ok (.d (.tuple xs)) env) Q) (a : RpA C.K F vs xs) {p : Addr} (hp : H p = none) : Q (.ref p) (upd H p (.tup vs)) := by
  have fp : F p = none := by
    cases q : F p with
    | none => rfl
    | some u => rw [rel.ex p u q] at hp; cases hp
  exact h _ (upd F p (.tup vs)) _ (rel.laid hp) (.tup (Evl.st_of upd_same) (a.up (Evl.Ex.new fp)))
end

/-- weaker readings -/
theorem PE.weak {X : Cx} {e : Expr} {t t' : TE} (h : PE X e t) (w : ∀ σ H Q, t' σ H Q → t σ H Q) : PE X e t' := ⟨fun pins s σ H Q I q => h.run pins s σ H Q I (w σ H Q q)⟩
theorem PT.weak {X : Cx} {e : Expr} {t t' : TT} (h : PT X e t) (w : ∀ σ H Q, t' σ H Q → t σ H Q) : PT X e t' := ⟨fun pins s σ H Q I q => h.run pins s σ H Q I (w σ H Q q)⟩
theorem PW.weak {X : Cx} {e : Expr} {t t' : TT} (h : PW X e t) (w : ∀ σ H Q, t' σ H Q → t σ H Q) : PW X e t' := ⟨fun wh pins s σ H Q I q => h.run wh pins s σ H Q I (w σ H Q q)⟩
theorem PA.weak {X : Cx} {es : List Expr} {t t' : TA} (h : PA X es t) (w : ∀ σ H Q, t' σ H Q → t σ H Q) : PA X es t' := ⟨fun pos pins s σ H Q I q => h.run pos pins s σ H Q I (w σ H Q q)⟩
theorem PS.weak {X : Cx} {st : Stmt} {t t' : TS} (h : PS X st t) (w : ∀ D σ H, t' D σ H → t D σ H) : PS X st t' := ⟨fun pins s σ H D I q => h.run pins s σ H D I (w D σ H q)⟩
theorem PSs.weak {X : Cx} {st : List Stmt} {t t' : TS} (h : PSs X st t) (w : ∀ D σ H, t' D σ H → t D σ H) : PSs X st t' := ⟨fun pins s σ H D I q => h.run pins s σ H D I (w D σ H q)⟩
end Pi


set_option Elab.async false
set_option linter.all false
set_option maxRecDepth 100000
set_option autoImplicit false
/-! Pi2: calls of the program's defs -/
namespace Pi
open PySem PySem.Spec PyProof.Rows L2

inductive Arg where
  | d (x : D)
  | bor (xs : List D)
  | fn (f : Str)
inductive RF where
  | stuck
  | ret (r : Val) (outs : List (List D))
  | exc (c : Str) (x : Option D) (outs : List (List D))
abbrev Fn := List Arg → RF

/-- the arguments' values, and where the lent lists stand -/
inductive ARel (C : Cfg) (F H : Hp) : List V → List Arg → List Addr → Prop
  | nil : ARel C F H [] [] []
  | d {v : V} {x : D} {vs : List V} {as : List Arg} {bs : List Addr} : Rp C.K F v x → ARel C F H vs as bs → ARel C F H (v :: vs) (.d x :: as) bs
  | fn {f : Str} {vs : List V} {as : List Arg} {bs : List Addr} : ARel C F H vs as bs → ARel C F H (.ref (C.fa f) :: vs) (.fn f :: as) bs
  | bor {a : Addr} {ws : List V} {xs : List D} {vs : List V} {as : List Arg} {bs : List Addr} : H a = some (.lst ws) → F a = none → RpA C.K F ws xs → a ∉ bs → ARel C F H vs as bs → ARel C F H (.ref a :: vs) (.bor xs :: as) (a :: bs)
/-- the lent lists behind the call -/
inductive ORel (C : Cfg) (F H : Hp) : List Addr → List (List D) → Prop
  | nil : ORel C F H [] []
  | cons {a : Addr} {ws : List V} {xs : List D} {bs : List Addr} {os : List (List D)} : H a = some (.lst ws) → F a = none → RpA C.K F ws xs → ORel C F H bs os → ORel C F H (a :: bs) (xs :: os)
def PV0 (C : Cfg) (H F' H' : Hp) (v : V) : Val → Prop
  | .d x => Rp C.K F' v x
  | .new xs => ∃ a vs, v = .ref a ∧ H a = none ∧ H' a = some (.lst vs) ∧ F' a = none ∧ RpA C.K F' vs xs
  | .fn f => v = .ref (C.fa f)
  | .own _ => False
/-- THE PROMISE of a def whose run on data is f -/
def spOf (C : Cfg) (f : Fn) : Sp := fun vs H Q E => ∃ F args bs, Ex F H ∧ ARel C F H vs args bs ∧ match f args with
  | .stuck => False
  | .ret r outs => ∀ v F' H', Adv (· ∈ bs) F H F' H' → Ex F' H' → ORel C F' H' bs outs → PV0 C H F' H' v r → Q v H'
  | .exc c x outs => ∀ d F' H', Adv (· ∈ bs) F H F' H' → Ex F' H' → ORel C F' H' bs outs → XR C.K F' H' d x → E (.ref (C.ca c)) d H'

/-! ### the caller's side -/
def argOf (env : PEnv) : Val → Option Arg
  | .d x => some (.d x)
  | .fn f => some (.fn f)
  | .own i => match env[i]? with
    | some (some s) => s.list?.map Arg.bor
    | _ => none
  | .new _ => none
def argsOf (env : PEnv) : List Val → Option (List Arg)
  | [] => some []
  | r :: rs => match argOf env r, argsOf env rs with
    | some a, some as => some (a :: as)
    | _, _ => none
def lentOf : List Val → List Nat
  | [] => []
  | .own i :: rs => i :: lentOf rs
  | _ :: rs => lentOf rs
def setMu (env : PEnv) (i : Nat) (xs : List D) : PEnv := match env[i]? with
  | some (some s) => env.set i (some (s.put xs))
  | _ => env
def putOuts (env : PEnv) : List Nat → List (List D) → PEnv
  | [], _ => env
  | _ :: _, [] => env
  | i :: is, o :: os => setMu (putOuts env is os) i o
def callV (f : Fn) (rs : List Val) (env : PEnv) : R Val :=
  if (lentOf rs).Nodup then
    match argsOf env rs with
    | none => .stuck
    | some args => match f args with
      | .stuck => .stuck
      | .ret (.own _) _ => .stuck
      | .ret r outs => .ok r (putOuts env (lentOf rs) outs)
      | .exc c x outs => .exc c x (putOuts env (lentOf rs) outs)
  else .stuck

section
variable {C : Cfg} {σ : L2.St} {env : PEnv} {F H F' H' : Hp}
theorem setMu_len (env : PEnv) (i : Nat) (xs : List D) : (setMu env i xs).length = env.length := by
  unfold setMu
  split
  · rw [List.length_set]
  · rfl
theorem putOuts_len (env : PEnv) : ∀ is os, (putOuts env is os).length = env.length
  | [], _ => rfl
  | _ :: _, [] => rfl
  | i :: is, o :: os => by show (setMu _ _ _).length = _; rw [setMu_len, putOuts_len env is os]
theorem setMu_ne {env : PEnv} {i j : Nat} {xs : List D} (h : j ≠ i) : (setMu env i xs)[j]? = env[j]? := by
  unfold setMu
  split
  · rw [List.getElem?_set_ne (fun e => h e.symm)]
  · rfl
theorem setMu_eq {env : PEnv} {i : Nat} {xs : List D} {s : Slot} (h : env[i]? = some (some s)) : (setMu env i xs)[i]? = some (some (s.put xs)) := by
  unfold setMu
  rw [h]
  show (env.set i (some (s.put xs)))[i]? = _
  obtain ⟨hl, _⟩ := List.getElem?_eq_some_iff.mp h
  rw [List.getElem?_set_self hl]
theorem putOuts_ne {env : PEnv} {j : Nat} : ∀ {is : List Nat} {os : List (List D)}, j ∉ is → (putOuts env is os)[j]? = env[j]?
  | [], _, _ => rfl
  | _ :: _, [], _ => rfl
  | i :: is, o :: os, h => by
    show (setMu _ _ _)[j]? = _
    rw [setMu_ne (fun e => h (by rw [e]; exact List.mem_cons_self)), putOuts_ne fun e => h (List.mem_cons_of_mem _ e)]
theorem put_mut {s : Slot} {xs ys : List D} (h : s.mut? = some (.l xs)) : (s.put ys).mut? = some (.l ys) := by
  cases s with
  | val x => cases h
  | fn f => cases h
  | set ks => cases h
  | lst _ => rfl
  | bor _ => rfl
theorem putOuts_bor {env : PEnv} {i : Nat} {xs : List D} (h : env[i]? = some (some (.bor xs))) : ∀ (is : List Nat) (os : List (List D)), ∃ ys, (putOuts env is os)[i]? = some (some (.bor ys))
  | [], _ => ⟨xs, h⟩
  | _ :: _, [] => ⟨xs, h⟩
  | j :: is, o :: os => by
    obtain ⟨ys, e⟩ := putOuts_bor h is os
    by_cases z : i = j
    · subst z
      exact ⟨o, setMu_eq e⟩
    · exact ⟨ys, (setMu_ne z).trans e⟩
/-- lent slots stand at the lent addresses -/
inductive Lent (env : PEnv) (σ : L2.St) : List Nat → List Addr → Prop
  | nil : Lent env σ [] []
  | cons {i : Nat} {a : Addr} {is : List Nat} {as : List Addr} {xs : List D} : Mu env i (.l xs) → σ[i]? = some (some (.ref a)) → Lent env σ is as → Lent env σ (i :: is) (a :: as)
theorem Lent.ma {is : List Nat} {bs : List Addr} (h : Lent env σ is bs) {a : Addr} (m : a ∈ bs) : MA env σ a := by
  induction h with
  | nil => cases m
  | cons h1 h2 _ ih =>
    rcases List.mem_cons.mp m with e | e
    · subst e; exact ⟨_, _, h1, h2⟩
    · exact ih e
theorem Lent.slot {is : List Nat} {bs : List Addr} (h : Lent env σ is bs) {i : Nat} {a : Addr} (rel : Rel C.K C.fa F H env σ) (m : a ∈ bs) {xs : Mc} (mu : Mu env i xs) (e : σ[i]? = some (some (.ref a))) : i ∈ is := by
  induction h with
  | nil => cases m
  | @cons j b is as ys h1 h2 _ ih =>
    rcases List.mem_cons.mp m with q | q
    · subst q
      by_cases z : i = j
      · subst z; exact List.mem_cons_self
      · exact absurd (e.trans h2.symm) (rel.dis i j xs _ z mu h1)
    · exact List.mem_cons_of_mem _ (ih q)
theorem Lent.at_ {is : List Nat} {bs : List Addr} {os : List (List D)} (h : Lent env σ is bs) (o : ORel C F' H' bs os) (nd : is.Nodup) : ∀ i ∈ is, ∃ s a ws xs, (putOuts env is os)[i]? = some (some s) ∧ s.mut? = some (.l xs) ∧ σ[i]? = some (some (.ref a)) ∧ H' a = some (.lst ws) ∧ F' a = none ∧ RpA C.K F' ws xs := by
  induction h generalizing os with
  | nil => intro i m; cases m
  | @cons j b is as ys h1 h2 _ ih =>
    cases o with
    | @cons _ ws xs _ os o1 o2 o3 o4 =>
      intro i m
      have nd' := List.nodup_cons.mp nd
      rcases List.mem_cons.mp m with q | q
      · subst q
        obtain ⟨s, e, hm⟩ := h1
        refine ⟨s.put xs, b, ws, xs, ?_, put_mut hm, h2, o1, o2, o3⟩
        show (setMu _ _ _)[i]? = _
        exact setMu_eq (by rw [putOuts_ne nd'.1]; exact e)
      · have z : i ≠ j := fun z => nd'.1 (z ▸ q)
        obtain ⟨s, a, ws', xs', e, r⟩ := ih o4 nd'.2 i q
        exact ⟨s, a, ws', xs', by show (setMu _ _ _)[i]? = _; rw [setMu_ne z]; exact e, r⟩
/-- behind the call -/
theorem outs_nx {is : List Nat} {bs : List Addr} {os : List (List D)} (rel : Rel C.K C.fa F H env σ) (h : Lent env σ is bs) (nd : is.Nodup) (adv : Adv (· ∈ bs) F H F' H') (ex : Ex F' H') (o : ORel C F' H' bs os) :
    Nx C.K C.fa σ env F H (putOuts env is os) F' H' := by
  have muBack : ∀ i xs, Mu (putOuts env is os) i xs → ∃ ys, Mu env i ys := by
    intro i xs ⟨s, e, hm⟩
    by_cases z : i ∈ is
    · have : ∀ {is : List Nat} {bs : List Addr}, Lent env σ is bs → i ∈ is → ∃ ys, Mu env i ys := by
        intro is bs h
        induction h with
        | nil => intro m; cases m
        | cons h1 _ _ ih =>
          intro m
          rcases List.mem_cons.mp m with q | q
          · subst q; exact ⟨_, h1⟩
          · exact ih q
      exact this h z
    · rw [putOuts_ne z] at e; exact ⟨xs, s, e, hm⟩
  refine ⟨⟨ex, by rw [putOuts_len]; exact rel.len, fun i s e => ?_, fun i j xs ys hne m1 m2 => ?_⟩, ⟨adv.fz, adv.dom, fun a q1 q2 nm => adv.fresh a q1 q2 fun m => nm (h.ma m), fun a u q nm => adv.keep a u q fun m => nm (h.ma m)⟩, fun a ⟨i, xs, mu, q⟩ => ?_, fun i xs q => putOuts_bor q is os⟩
  · by_cases z : i ∈ is
    · obtain ⟨s', a, ws, xs, e1, e2, e3, e4, e5, e6⟩ := h.at_ o nd i z
      rw [e] at e1
      cases e1
      exact ⟨_, e3, SRel.of_mu e2 ⟨a, _, rfl, e4, e5, ws, rfl, e6⟩⟩
    · rw [putOuts_ne z] at e
      obtain ⟨v, hv, hs⟩ := rel.at_ i s e
      refine ⟨v, hv, ?_⟩
      cases hm : s.mut? with
      | some xs =>
        obtain ⟨a, vs, rfl, h2, h3, h4⟩ := hs.mu hm
        have na : a ∉ bs := fun m => z (h.slot rel m ⟨s, e, hm⟩ hv)
        exact SRel.of_mu hm ⟨a, vs, rfl, adv.keep a _ h2 na, adv.fresh a h3 (by rw [h2]; simp) na, h4.up adv.fz⟩
      | none =>
        cases s with
        | val x => exact Rp.up (show Rp C.K F v x from hs) adv.fz
        | fn f => exact hs
        | lst xs => cases hm
        | bor xs => cases hm
        | set xs => cases hm
  · obtain ⟨ys1, n1⟩ := muBack i xs m1
    obtain ⟨ys2, n2⟩ := muBack j ys m2
    exact rel.dis i j ys1 ys2 hne n1 n2
  · obtain ⟨ys, n1⟩ := muBack i xs mu
    exact ⟨i, ys, n1, q⟩

theorem args_ok (rel : Rel C.K C.fa F H env σ) : ∀ {vs : List V} {rs : List Val} {args : List Arg}, VRelA C.K C.fa σ F vs rs → argsOf env rs = some args → (lentOf rs).Nodup → ∃ bs, ARel C F H vs args bs ∧ Lent env σ (lentOf rs) bs := by
  intro vs rs args h
  induction h generalizing args with
  | nil =>
    intro e _
    cases e
    exact ⟨[], .nil, .nil⟩
  | @cons v vs r rs hr _ ih =>
    intro e nd
    unfold argsOf at e
    cases e1 : argOf env r with
    | none => rw [e1] at e; cases e
    | some a =>
      cases e2 : argsOf env rs with
      | none => rw [e1, e2] at e; cases e
      | some as =>
        rw [e1, e2] at e
        cases e
        cases r with
        | d x =>
          cases e1
          obtain ⟨bs, h1, h2⟩ := ih e2 nd
          exact ⟨bs, .d hr h1, h2⟩
        | fn f =>
          cases e1
          obtain ⟨bs, h1, h2⟩ := ih e2 nd
          have hv : v = .ref (C.fa f) := hr
          subst hv
          exact ⟨bs, .fn h1, h2⟩
        | new xs => cases e1
        | own i =>
          have nd' := List.nodup_cons.mp (show (i :: lentOf rs).Nodup from nd)
          obtain ⟨bs, h1, h2⟩ := ih e2 nd'.2
          have e1 : (match env[i]? with | some (some s) => s.list?.map Arg.bor | _ => none) = some a := e1
          cases q : env[i]? with
          | none => rw [q] at e1; cases e1
          | some os =>
            cases os with
            | none => rw [q] at e1; cases e1
            | some s =>
              rw [q] at e1
              cases hm : s.list? with
              | none => simp [hm] at e1
              | some xs =>
                simp [hm] at e1
                subst e1
                obtain ⟨w, hw, hs⟩ := rel.at_ i s q
                have hv : σ[i]? = some (some v) := hr
                rw [hv] at hw
                cases hw
                obtain ⟨b, ws, rfl, g1, g2, g3⟩ := hs.list hm
                have nb : b ∉ bs := fun m => nd'.1 (h2.slot rel m ⟨s, q, Slot.list_mut hm⟩ hv)
                exact ⟨b :: bs, .bor g1 g2 g3 nb h1, .cons ⟨s, q, Slot.list_mut hm⟩ hv h2⟩
/-- a call: the promise from the caller's state -/
theorem callV_sp {E0 : L2.St → XK} {f : Fn} {rs : List Val} {vs : List V} {Q : VK} (rel : Rel C.K C.fa F H env σ) (hr : VRelA C.K C.fa σ F vs rs) (h : Post C E0 σ env F H (callV f rs env) Q) : spOf C f vs H Q (E0 σ) := by
  unfold callV at h
  by_cases nd : (lentOf rs).Nodup
  · rw [if_pos nd] at h
    cases ea : argsOf env rs with
    | none => rw [ea] at h; exact h.elim
    | some args =>
      rw [ea] at h
      obtain ⟨bs, h1, h2⟩ := args_ok rel hr ea nd
      refine ⟨F, args, bs, rel.ex, h1, ?_⟩
      dsimp only at h
      cases ef : f args with
      | stuck => rw [ef] at h; exact h.elim
      | exc c x outs =>
        rw [ef] at h
        exact fun d F' H' adv ex o xr => h d F' H' (outs_nx rel h2 nd adv ex o) xr
      | ret r outs =>
        rw [ef] at h
        cases r with
        | own i => exact h.elim
        | d x => exact fun v F' H' adv ex o pv => h v F' H' (outs_nx rel h2 nd adv ex o) pv
        | fn g => exact fun v F' H' adv ex o pv => h v F' H' (outs_nx rel h2 nd adv ex o) pv
        | new xs => exact fun v F' H' adv ex o pv => h v F' H' (outs_nx rel h2 nd adv ex o) pv
  · rw [if_neg nd] at h
    exact h.elim
end
end Pi


set_option Elab.async false
set_option linter.all false
set_option maxRecDepth 100000
set_option autoImplicit false
/-! Pi3: statements -/
namespace Pi
open PySem PySem.Spec PyProof.Rows L2

inductive Flow where
  | nx
  | brk
  | cont
  | ret (r : Val)
/-- a def's entry: the lent slots and where their lists stand, what was known, the heap -/
structure Ent where
  B : List (Nat × Addr)
  F0 : Hp
  H0 : Hp
structure Loc (C : Cfg) (T : Ent) (σ : L2.St) (env : PEnv) (F H : Hp) : Prop where
  rel : Rel C.K C.fa F H env σ
  adv : Adv (fun a => a ∈ T.B.map (·.2)) T.F0 T.H0 F H
  own : ∀ a, MA env σ a → a ∈ T.B.map (·.2) ∨ T.H0 a = none
  bor : ∀ p ∈ T.B, σ[p.1]? = some (some (.ref p.2)) ∧ ∃ xs, env[p.1]? = some (some (.bor xs))
section
variable {C : Cfg} {T : Ent} {E0 : L2.St → XK} {σ : L2.St} {env env1 env2 : PEnv} {F H F1 H1 F2 H2 : Hp} {v : V}
theorem Loc.nx (l : Loc C T σ env F H) (n : Nx C.K C.fa σ env F H env1 F1 H1) : Loc C T σ env1 F1 H1 :=
  ⟨n.rel, l.adv.trans n.adv fun a m hne => (l.own a m).resolve_right hne, fun a m => l.own a (n.sub a m), fun p hp => let ⟨a, xs, b⟩ := l.bor p hp; ⟨a, n.bor _ xs b⟩⟩
end

section
variable (C : Cfg) (T : Ent) (E0 : L2.St → XK)
def PostS (F : Hp) (Z : Ends) : R Flow → Prop
  | .stuck => False
  | .ok .nx env' => ∀ σ' F' H', Loc C T σ' env' F' H' → Ex F F' → Z.nx σ' H'
  | .ok .brk env' => ∀ σ' F' H', Loc C T σ' env' F' H' → Ex F F' → Z.bk σ' H'
  | .ok .cont env' => ∀ σ' F' H', Loc C T σ' env' F' H' → Ex F F' → Z.ct σ' H'
  | .ok (.ret r) env' => ∀ v σ' F' H', Loc C T σ' env' F' H' → Ex F F' → PV0 C T.H0 F' H' v r → Z.rt v H'
  | .exc c x env' => ∀ d σ' F' H', Loc C T σ' env' F' H' → Ex F F' → XR C.K F' H' d x → E0 σ' (.ref (C.ca c)) d H'
def tS (m : PEnv → R Flow) : TS := fun Z σ H => ∃ env F, Loc C T σ env F H ∧ PostS C T E0 F Z (m env)
end
theorem PostS.up {C : Cfg} {T : Ent} {E0 : L2.St → XK} {F F1 : Hp} {Z : Ends} {m : R Flow} (h : PostS C T E0 F Z m) (e : Ex F F1) : PostS C T E0 F1 Z m := by
  cases m with
  | stuck => exact h
  | exc c x env => exact fun d σ' F' H' l q => h d σ' F' H' l (e.trans q)
  | ok f env =>
    cases f with
    | nx => exact fun σ' F' H' l q => h σ' F' H' l (e.trans q)
    | brk => exact fun σ' F' H' l q => h σ' F' H' l (e.trans q)
    | cont => exact fun σ' F' H' l q => h σ' F' H' l (e.trans q)
    | ret r => exact fun v σ' F' H' l q => h v σ' F' H' l (e.trans q)

def R.thenS : R Flow → (PEnv → R Flow) → R Flow
  | .ok .nx env, f => f env
  | r, _ => r
def skipS : PEnv → R Flow := fun env => .ok .nx env
def seqS (m1 m2 : PEnv → R Flow) : PEnv → R Flow := fun env => (m1 env).thenS m2
def exprS (m : PEnv → R Val) : PEnv → R Flow := fun env => (m env).bind fun _ env => .ok .nx env
def asgW (i : Nat) (own : Bool) (env : PEnv) : Val → R Flow
  | .d x => .ok .nx (env.set i (some (.val x)))
  | .fn f => .ok .nx (env.set i (some (.fn f)))
  | .new xs => .ok .nx (env.set i (some (if own then .lst xs else .val (.list xs))))
  | .own _ => .stuck
def asgV (i : Nat) (own : Bool) (r : Val) (env : PEnv) : R Flow := match env[i]? with
  | none => .stuck
  | some (some (.bor _)) => .stuck
  | _ => asgW i own env r
def asgS (i : Nat) (own : Bool) (m : PEnv → R Val) : PEnv → R Flow := fun env => (m env).bind (asgV i own)
def ifS (t : PEnv → R Bool) (a b : PEnv → R Flow) : PEnv → R Flow := fun env => (t env).bind fun c env => if c then a env else b env
def retV (r : Val) (env : PEnv) : R Flow := match r with
  | .own i => match env[i]? with
    | some (some (.lst xs)) => .ok (.ret (.new xs)) env
    | _ => .stuck
  | r => .ok (.ret r) env
def retS (m : PEnv → R Val) : PEnv → R Flow := fun env => (m env).bind retV
def retN : PEnv → R Flow := fun env => .ok (.ret (.d .none)) env
def brkS : PEnv → R Flow := fun env => .ok .brk env
def contS : PEnv → R Flow := fun env => .ok .cont env

section
variable {C : Cfg} {T : Ent} {E0 : L2.St → XK} {σ : L2.St} {env env1 env2 : PEnv} {F H F1 H1 F2 H2 : Hp} {v : V} {Z : Ends}
theorem seqES {m : R Val} {f : Val → PEnv → R Flow} {Q' : VK} (loc : Loc C T σ env F H) (h : PostS C T E0 F Z (m.bind f))
    (k : ∀ r env1 v F1 H1, Nx C.K C.fa σ env F H env1 F1 H1 → PV C.K C.fa σ H F1 H1 v r → PostS C T E0 F Z (f r env1) → Q' v H1) : Post C E0 σ env F H m Q' := by
  cases m with
  | stuck => exact h
  | exc c x env1 => exact fun d F' H' n xr => h d σ F' H' (loc.nx n) n.adv.fz xr
  | ok r env1 => exact fun v F' H' n p => k r env1 v F' H' n p h
theorem seqTS {m : R Bool} {f : Bool → PEnv → R Flow} {Q' : Bool → Hp → Prop} (loc : Loc C T σ env F H) (h : PostS C T E0 F Z (m.bind f))
    (k : ∀ r env1 F1 H1, Nx C.K C.fa σ env F H env1 F1 H1 → PostS C T E0 F Z (f r env1) → Q' r H1) : PostT C E0 σ env F H m Q' := by
  cases m with
  | stuck => exact h
  | exc c x env1 => exact fun d F' H' n xr => h d σ F' H' (loc.nx n) n.adv.fz xr
  | ok r env1 => exact fun F' H' n => k r env1 F' H' n h

theorem getSet {α : Type} {l : List (Option α)} {i j : Nat} {s t : Option α} (h : (l.set i s)[j]? = some t) : (j = i ∧ t = s) ∨ (j ≠ i ∧ l[j]? = some t) := by
  by_cases z : j = i
  · subst z
    have hl : j < l.length := by
      have := (List.getElem?_eq_some_iff.mp h).1
      rwa [List.length_set] at this
    rw [List.getElem?_set_self hl] at h
    exact .inl ⟨rfl, (Option.some.inj h).symm⟩
  · rw [List.getElem?_set_ne (fun e => z e.symm)] at h
    exact .inr ⟨z, h⟩
/-- a name gets a value; a list of its own stands at an address that no other name's list has -/
theorem Loc.set (l : Loc C T σ env F H) {i : Nat} {s : Slot} (hi : i < env.length) (nb : ∀ xs, env[i]? ≠ some (some (.bor xs))) (nb' : ∀ xs, s ≠ .bor xs) (hs : SRel C.K C.fa F H v s)
    (fr : ∀ c a, s.mut? = some c → v = .ref a → ¬ MA env σ a ∧ T.H0 a = none) : Loc C T (σ.set i (some v)) (env.set i (some s)) F H := by
  have hiσ : i < σ.length := by rw [← l.rel.len]; exact hi
  have mu : ∀ {j : Nat} {xs : Mc}, Mu (env.set i (some s)) j xs → (j = i ∧ s.mut? = some xs) ∨ (j ≠ i ∧ Mu env j xs) := by
    intro j xs ⟨t, e, hm⟩
    rcases getSet e with ⟨z, e2⟩ | ⟨z, e2⟩
    · cases e2; exact .inl ⟨z, hm⟩
    · exact .inr ⟨z, t, e2, hm⟩
  have isl : ∀ {xs : Mc}, s.mut? = some xs → ∃ ys a, s.mut? = some ys ∧ v = .ref a := by
    intro xs hm
    obtain ⟨a, vs, e, _⟩ := hs.mu hm
    exact ⟨xs, a, hm, e⟩
  refine ⟨⟨l.rel.ex, by rw [List.length_set, List.length_set]; exact l.rel.len, fun j t e => ?_, fun j k xs ys hne m1 m2 => ?_⟩, l.adv, fun a ⟨j, xs, m, e⟩ => ?_, fun p hp => ?_⟩
  · rcases getSet e with ⟨z, e2⟩ | ⟨z, e2⟩
    · cases e2
      subst z
      exact ⟨v, List.getElem?_set_self hiσ, hs⟩
    · obtain ⟨w, hw, h2⟩ := l.rel.at_ j t e2
      exact ⟨w, by rw [List.getElem?_set_ne (fun e => z e.symm)]; exact hw, h2⟩
  · rcases mu m1 with ⟨rfl, e1⟩ | ⟨z1, e1⟩
    · rcases mu m2 with ⟨rfl, e2⟩ | ⟨z2, e2⟩
      · exact absurd rfl hne
      · obtain ⟨zs, a, es, ev⟩ := isl e1
        rw [List.getElem?_set_self hiσ, List.getElem?_set_ne (fun e => z2 e.symm)]
        intro q
        exact (fr zs a es ev).1 ⟨k, ys, e2, by rw [← q, ev]⟩
    · rcases mu m2 with ⟨rfl, e2⟩ | ⟨z2, e2⟩
      · obtain ⟨zs, a, es, ev⟩ := isl e2
        rw [List.getElem?_set_self hiσ, List.getElem?_set_ne (fun e => z1 e.symm)]
        intro q
        exact (fr zs a es ev).1 ⟨j, xs, e1, by rw [q, ev]⟩
      · rw [List.getElem?_set_ne (fun e => z1 e.symm), List.getElem?_set_ne (fun e => z2 e.symm)]
        exact l.rel.dis j k xs ys hne e1 e2
  · rcases mu m with ⟨rfl, e1⟩ | ⟨z1, e1⟩
    · obtain ⟨zs, b, es, ev⟩ := isl e1
      rw [List.getElem?_set_self hiσ, ev] at e
      cases e
      exact .inr (fr zs a es ev).2
    · rw [List.getElem?_set_ne (fun e => z1 e.symm)] at e
      exact l.own a ⟨j, xs, e1, e⟩
  · obtain ⟨e1, xs, e2⟩ := l.bor p hp
    have z : p.1 ≠ i := fun z => nb xs (by rw [← z]; exact e2)
    exact ⟨by rw [List.getElem?_set_ne (fun e => z e.symm)]; exact e1, xs, by rw [List.getElem?_set_ne (fun e => z e.symm)]; exact e2⟩
theorem Loc.dom (l : Loc C T σ env F H) {a : Addr} (h : H a = none) : T.H0 a = none := by
  cases q : T.H0 a with
  | none => rfl
  | some u => exact absurd h (l.adv.dom a (by rw [q]; simp))
/-- x = value -/
theorem asg_ok {i : Nat} {own : Bool} {r : Val} (loc : Loc C T σ env F H) (n : Nx C.K C.fa σ env F H env1 F1 H1) (p : PV C.K C.fa σ H F1 H1 v r) (h : PostS C T E0 F Z (asgV i own r env1)) : Z.nx (σ.set i (some v)) H1 := by
  have l1 := loc.nx n
  unfold asgV at h
  cases e : env1[i]? with
  | none => rw [e] at h; exact h.elim
  | some o =>
    have hi : i < env1.length := (List.getElem?_eq_some_iff.mp e).1
    have nb : ∀ xs, env1[i]? ≠ some (some (.bor xs)) := by
      intro xs q
      rw [q] at h
      exact h.elim
    have h : PostS C T E0 F Z (asgW i own env1 r) := by
      rw [e] at h
      cases o with
      | none => exact h
      | some s =>
        cases s with
        | bor xs => exact absurd e (nb xs)
        | val x => exact h
        | fn f => exact h
        | set ks => exact h
        | lst xs => exact h
    cases r with
    | d x => exact h _ _ _ (l1.set hi nb (fun _ q => by cases q) p fun _ _ q => nomatch q) n.adv.fz
    | fn f => exact h _ _ _ (l1.set hi nb (fun _ q => by cases q) p fun _ _ q => nomatch q) n.adv.fz
    | own j => exact h.elim
    | new xs =>
      cases own with
      | true =>
        obtain ⟨a, vs, rfl, h1, h2, h3, h4⟩ := id p
        exact h _ _ _ (l1.set hi nb (fun _ q => by cases q) ⟨a, vs, rfl, h2, h3, h4⟩ fun _ b _ q => by
          cases q
          exact ⟨fun m => loc.rel.nm a (n.sub a m) h1, loc.dom h1⟩) n.adv.fz
      | false =>
        obtain ⟨F2, n2, vr⟩ := n.frz p loc.rel.nm
        exact h _ _ _ ((loc.nx n2).set hi nb (fun _ q => by cases q) vr fun _ _ q => nomatch q) n2.adv.fz

section
variable {X : Cx} {fa ca : Str → Addr}
end
theorem tS_seq {X : Cx} {st : Stmt} {sts : List Stmt} {m1 m2 : PEnv → R Flow} (h1 : PS X st (tS C T E0 m1)) (h2 : PSs X sts (tS C T E0 m2)) : PSs X (st :: sts) (tS C T E0 (seqS m1 m2)) := by
  refine PSs.weak (pss_cons h1 h2) fun Z σ H ⟨env, F, loc, h⟩ => ⟨env, F, loc, ?_⟩
  unfold seqS at h
  revert h
  cases m1 env with
  | stuck => exact fun h => h
  | exc c x e => exact fun h => h
  | ok f e =>
    cases f with
    | nx => exact fun h => fun σ' F' H' l x => ⟨e, F', l, h.up x⟩
    | brk => exact fun h => h
    | cont => exact fun h => h
    | ret r => exact fun h => h
theorem tS_one {X : Cx} {st : Stmt} {m : PEnv → R Flow} (h : PS X st (tS C T E0 m)) : PSs X [st] (tS C T E0 m) := pss_one h
theorem tS_nil {X : Cx} : PSs X [] (tS C T E0 skipS) := PSs.weak pss_nil fun Z σ H ⟨env, F, loc, h⟩ => h σ F H loc (Evl.Ex.refl _)
theorem tS_pass {X : Cx} {pos : Pos} : PS X (.Pass pos) (tS C T E0 skipS) := PS.weak ps_pass fun Z σ H ⟨env, F, loc, h⟩ => h σ F H loc (Evl.Ex.refl _)
theorem tS_brk {X : Cx} {pos : Pos} : PS X (.Break pos) (tS C T E0 brkS) := PS.weak ps_break fun Z σ H ⟨env, F, loc, h⟩ => h σ F H loc (Evl.Ex.refl _)
theorem tS_cont {X : Cx} {pos : Pos} : PS X (.Continue pos) (tS C T E0 contS) := PS.weak ps_continue fun Z σ H ⟨env, F, loc, h⟩ => h σ F H loc (Evl.Ex.refl _)
theorem tS_asg {X : Cx} {i : Nat} {own : Bool} {x : Str} {e : Expr} {m : PEnv → R Val} {pos pos' : Pos} (hN : X.N.Nodup) (hi : X.N[i]? = some x) (hx : L2.Loc X.env.scope x) (he : PE X e (tR C E0 m))
    (hs : swapsWith e (some (.Name x pos')) pos.line X.env = pure false := by rfl) (hf : X.fn x = true ∨ X.env.scope.names.lookup x = some .local := by first | exact .inl rfl | exact .inr rfl | assumption) :
    PS X (.Assign [.Name x pos'] e pos) (tS C T E0 (asgS i own m)) := by
  refine PS.weak (ps_set hN hi hx he hs hf) fun Z σ H ⟨env, F, loc, h⟩ => ⟨env, F, loc.rel, seqES loc h fun r env1 v F1 H1 n p q => ?_⟩
  exact asg_ok loc n p q
theorem tS_expr {X : Cx} {e : Expr} {m : PEnv → R Val} {pos : Pos} (he : PE X e (tR C E0 m)) (hs : swapsWith e none pos.line X.env = pure false := by rfl) : PS X (.Expr e pos) (tS C T E0 (exprS m)) := by
  refine PS.weak (ps_expr he hs) fun Z σ H ⟨env, F, loc, h⟩ => ⟨env, F, loc.rel, seqES loc h fun r env1 v F1 H1 n p q => ?_⟩
  exact q σ F1 H1 (loc.nx n) n.adv.fz
theorem tS_if {X : Cx} {c : Expr} {a b : List Stmt} {pos : Pos} {t : PEnv → R Bool} {m1 m2 : PEnv → R Flow} (hc : PT X c (tRT C E0 t)) (ha : PSs X a (tS C T E0 m1)) (hb : PSs X b (tS C T E0 m2)) :
    PS X (.If c a b pos) (tS C T E0 (ifS t m1 m2)) := by
  refine PS.weak (ps_if hc ha hb) fun Z σ H ⟨env, F, loc, h⟩ => ⟨env, F, loc.rel, seqTS loc h fun r env1 F1 H1 n q => ?_⟩
  cases r with
  | true => exact ⟨env1, F1, loc.nx n, q.up n.adv.fz⟩
  | false => exact ⟨env1, F1, loc.nx n, q.up n.adv.fz⟩
theorem tS_ret {X : Cx} {e : Expr} {m : PEnv → R Val} {pos : Pos} (he : PE X e (tR C E0 m)) : PS X (.Return (some e) pos) (tS C T E0 (retS m)) := by
  refine PS.weak (ps_ret he) fun Z σ H ⟨env, F, loc, h⟩ => ⟨env, F, loc.rel, seqES loc h fun r env1 v F1 H1 n p q => ?_⟩
  cases r with
  | d x => exact q v σ F1 H1 (loc.nx n) n.adv.fz p
  | fn f => exact q v σ F1 H1 (loc.nx n) n.adv.fz p
  | new xs =>
    obtain ⟨a, vs, h1, h2, h3⟩ := id p
    exact q v σ F1 H1 (loc.nx n) n.adv.fz ⟨a, vs, h1, loc.dom h2, h3⟩
  | own i =>
    have q : PostS C T E0 F Z (match env1[i]? with | some (some (.lst xs)) => .ok (.ret (.new xs)) env1 | _ => .stuck) := q
    cases e1 : env1[i]? with
    | none => rw [e1] at q; exact q.elim
    | some o =>
      cases o with
      | none => rw [e1] at q; exact q.elim
      | some s =>
        cases s with
        | val x => rw [e1] at q; exact q.elim
        | fn f => rw [e1] at q; exact q.elim
        | bor xs => rw [e1] at q; exact q.elim
        | set xs => rw [e1] at q; exact q.elim
        | lst xs =>
          rw [e1] at q
          have l1 := loc.nx n
          obtain ⟨w, hw, a, vs, rfl, g1, g2, g3⟩ := l1.rel.at_ i _ e1
          have hv : σ[i]? = some (some v) := p
          rw [hw] at hv
          cases hv
          have mu : Mu env1 i (.l xs) := ⟨_, e1, rfl⟩
          have h0 : T.H0 a = none := by
            rcases l1.own a ⟨i, _, mu, hw⟩ with z | z
            · obtain ⟨pr, hp, ea⟩ := List.mem_map.mp z
              obtain ⟨k1, ys, k2⟩ := l1.bor pr hp
              have ne : i ≠ pr.1 := fun z => by rw [z, k2] at e1; cases e1
              exact absurd (by rw [hw, k1, ea]) (l1.rel.dis i pr.1 _ _ ne mu ⟨_, k2, rfl⟩)
            · exact z
          exact q _ σ F1 H1 l1 n.adv.fz ⟨a, vs, rfl, h0, g1, g2, g3⟩
theorem tS_retN {X : Cx} {pos : Pos} : PS X (.Return none pos) (tS C T E0 retN) := PS.weak ps_retN fun Z σ H ⟨env, F, loc, h⟩ => h .non σ F H loc (Evl.Ex.refl _) .non
end
end Pi


set_option Elab.async false
set_option linter.all false
set_option maxRecDepth 100000
set_option autoImplicit false
/-! Pi4: operators on data -/
namespace Pi
open PySem PySem.Spec PyProof.Rows L2

abbrev Cf (X : Cx) (fa ca : Str → Addr) : Cfg := ⟨X.K, ⟨fa, X.prog, X.w⟩, ca⟩
/-- an operator's reading by its table g -/
def r2 (C : Cfg) (g : D → D → Option Val) : R2 := fun x y H Q => ∃ σ env F dx dy res, Rel C.K C.fa F H env σ ∧ Ct C.K F H x dx ∧ Ct C.K F H y dy ∧ g dx dy = some res ∧ Post C (fun _ _ _ _ => True) σ env F H (.ok res env) Q
def r1 (C : Cfg) (g : D → Option Val) : V → Hp → VK → Prop := fun x H Q => ∃ σ env F dx res, Rel C.K C.fa F H env σ ∧ Ct C.K F H x dx ∧ g dx = some res ∧ Post C (fun _ _ _ _ => True) σ env F H (.ok res env) Q

mutual
def noDict : D → Bool
  | .list xs => noDictA xs
  | .tuple xs => noDictA xs
  | .dict _ => false
  | _ => true
def noDictA : List D → Bool
  | [] => true
  | x :: xs => noDict x && noDictA xs
end
section
variable {K : Kf} {H : Hp}
mutual
theorem Rp.dp : ∀ (d : D) (v : V), noDict d = true → Rp K H v d → Dp K H v d
  | .none, _, _, h => by cases h; exact .non
  | .bool _, _, _, h => by cases h; exact .bl _
  | .int _, _, _, h => by cases h; exact .int _
  | .str _, _, _, h => by cases h; exact .str _
  | .list ds, _, n, h => by cases h with | lst a b => exact .lst a (RpA.dp ds _ (by simpa [noDict] using n) b)
  | .tuple ds, _, n, h => by cases h with | tup a b => exact .tup a (RpA.dp ds _ (by simpa [noDict] using n) b)
  | .dict _, _, n, _ => by simp [noDict] at n
theorem RpA.dp : ∀ (ds : List D) (vs : List V), noDictA ds = true → RpA K H vs ds → DpAll K H vs ds
  | [], _, _, h => by cases h; exact .nil
  | d :: ds, _, n, h => by
    have n' : noDict d = true ∧ noDictA ds = true := by simpa [noDictA] using n
    cases h with | cons a b => exact .cons (Rp.dp d _ n'.1 a) (RpA.dp ds _ n'.2 b)
end
mutual
theorem noDict_lay : ∀ d : D, d.canLay0 = true → noDict d = true
  | .none, _ => by simp [noDict]
  | .bool _, _ => by simp [noDict]
  | .int _, _ => by simp [noDict]
  | .str _, _ => by simp [noDict]
  | .list xs, h => by simp only [noDict]; exact noDictA_lay xs (by simpa [PyData.canLay0] using h)
  | .tuple xs, h => by simp only [noDict]; exact noDictA_lay xs (by simpa [PyData.canLay0] using h)
  | .dict _, h => by simp [PyData.canLay0] at h
theorem noDictA_lay : ∀ ds : List D, PyData.canLayAll0 ds = true → noDictA ds = true
  | [], _ => by simp [noDictA]
  | d :: ds, h => by
    have h' : d.canLay0 = true ∧ PyData.canLayAll0 ds = true := by simpa [PyData.canLayAll0] using h
    simp [noDictA, noDict_lay d h'.1, noDictA_lay ds h'.2]
end
theorem Rp.dps {d : D} {v : V} (s : SeqAt.shaped d = true) (h : Rp K H v d) : Dp K H v d := Rp.dp d v (noDict_lay d (SeqAt.canLay_of_shaped s)) h
end

/-! ### the tables -/
abbrev big : Nat := 1000000
theorem big_line {n : Nat} (h : n ≤ big) : n ≤ sizeLine := Nat.le_trans h (by decide)
theorem big_lt {n : Nat} (h : n < big) : n < sizeLine := Nat.lt_of_lt_of_le h (by decide)
def addD : D → D → Option Val
  | .int i, .int j => some (.d (.int (i + j)))
  | .str x, .str y => if x.length + y.length ≤ big then some (.d (.str (x ++ y))) else none
  | .list xs, .list ys => if xs.length + ys.length ≤ big then some (.new (xs ++ ys)) else none
  | .tuple xs, .tuple ys => if xs.length + ys.length ≤ big then some (.d (.tuple (xs ++ ys))) else none
  | _, _ => none
def subD : D → D → Option Val
  | .int i, .int j => some (.d (.int (i - j)))
  | _, _ => none
def mulD : D → D → Option Val
  | .int i, .int j => if (-(2 ^ 64) < i ∧ i < 2 ^ 64) ∨ (-(2 ^ 64) < j ∧ j < 2 ^ 64) then some (.d (.int (i * j))) else none
  | _, _ => none
def fdivD : D → D → Option Val
  | .int i, .int j => if 0 < j ∧ j.natAbs.log2 < 9000 then some (.d (.int (i / j))) else none
  | _, _ => none
def modD : D → D → Option Val
  | .int i, .int j => if 0 < j then some (.d (.int (i % j))) else none
  | _, _ => none
def powD : D → D → Option Val
  | .int i, .int j => if 0 ≤ j ∧ (Builtin.Int.intBits i : Int) * j ≤ 2 ^ 27 then some (.d (.int (i ^ j.toNat))) else none
  | _, _ => none
def eqD (x y : D) : Option Val := if SeqAt.shaped x = true ∧ SeqAt.shaped y = true then some (.d (.bool (PyData.eqv x y))) else none
def neD (x y : D) : Option Val := if SeqAt.shaped x = true ∧ SeqAt.shaped y = true then some (.d (.bool (!PyData.eqv x y))) else none
def ltD : D → D → Option Val
  | .int i, .int j => some (.d (.bool (decide (i < j))))
  | .str i, .str j => some (.d (.bool (decide (i.cps.toList < j.cps.toList))))
  | _, _ => none
def leD : D → D → Option Val
  | .int i, .int j => some (.d (.bool (decide (i ≤ j))))
  | _, _ => none
def gtD : D → D → Option Val
  | .int i, .int j => some (.d (.bool (decide (j < i))))
  | _, _ => none
def geD : D → D → Option Val
  | .int i, .int j => some (.d (.bool (decide (j ≤ i))))
  | _, _ => none
def flatD : D → Bool
  | .none => true
  | .bool _ => true
  | .int _ => true
  | .str _ => true
  | _ => false
def inD (x : D) : D → Option Val
  | .list ds => if SeqAt.shaped x = true ∧ SeqAt.shaped (.list ds) = true then some (.d (.bool (ds.any fun z => PyData.eqv z x))) else none
  | .tuple ds => if flatD x = true ∧ ds.all flatD = true then some (.d (.bool (ds.any fun z => PyData.eqv z x))) else none
  | _ => none
def notinD (x : D) : D → Option Val
  | .list ds => if SeqAt.shaped x = true ∧ SeqAt.shaped (.list ds) = true then some (.d (.bool (!ds.any fun z => PyData.eqv z x))) else none
  | .tuple ds => if flatD x = true ∧ ds.all flatD = true then some (.d (.bool (!ds.any fun z => PyData.eqv z x))) else none
  | _ => none
def isD : D → D → Option Val
  | x, .none => some (.d (.bool (match x with | .none => true | _ => false)))
  | .bool a, .bool b => some (.d (.bool (a == b)))
  | _, _ => none
def isnotD : D → D → Option Val
  | x, .none => some (.d (.bool (match x with | .none => false | _ => true)))
  | .bool a, .bool b => some (.d (.bool (!(a == b))))
  | _, _ => none

section
variable {X : Cx} {fa ca : Str → Addr}
theorem op_addD : OpR X (binaryOp .Add) (r2 (Cf X fa ca) addD) := by
  intro pins s σ H x y v u Q I rx ry h
  obtain ⟨τ, env, F, dx, dy, res, rel, cx, cy, g, q⟩ := h
  cases dx with
  | int i =>
    cases dy with
    | int j =>
      cases cx.int
      cases cy.int
      cases g
      exact op_add pins s σ H _ _ v u Q I rx ry ⟨i, j, rfl, rfl, q.here rel (.int _)⟩
    | _ => cases g
  | str i =>
    cases dy with
    | str j =>
      cases cx.str
      cases cy.str
      have g : (if i.length + j.length ≤ big then some (Val.d (.str (i ++ j))) else none) = some res := g
      by_cases z : i.length + j.length ≤ big
      · rw [if_pos z] at g
        cases g
        exact op_add_str pins s σ H _ _ v u Q I rx ry ⟨i, j, rfl, rfl, big_line z, q.here rel (.str _)⟩
      · rw [if_neg z] at g
        cases g
    | _ => cases g
  | list xs =>
    cases dy with
    | list ys =>
      obtain ⟨a, vs, rfl, sa, ra⟩ := cx.list
      obtain ⟨b, ws, rfl, sb, rb⟩ := cy.list
      have g : (if xs.length + ys.length ≤ big then some (Val.new (xs ++ ys)) else none) = some res := g
      by_cases z : xs.length + ys.length ≤ big
      · rw [if_pos z] at g
        cases g
        cases rx
        cases ry
        obtain ⟨its, rv, ⟨o, n, ho, hc, hd0, hd⟩, hz⟩ := I.list sa
        obtain ⟨its2, rv2, ⟨o2, n2, ho2, hc2, hd02, hd2⟩, hz2⟩ := I.list sb
        have l1 := ra.len
        have l2 := rb.len
        have l3 := rv.length
        have l4 := rv2.length
        have sz : its.length + its2.length ≤ sizeLine := by
          have := big_line z
          omega
        obtain ⟨oc, od, ot, osl⟩ := o
        obtain ⟨oc2, od2, ot2, osl2⟩ := o2
        subst hc hd hd0 hc2 hd2 hd02
        have ea : its.toArray ++ its2.toArray = (its ++ its2).toArray := by simp
        have hw := list_addW a b its.toArray its2.toArray n n2 Option.none Option.none osl osl2 (by rw [List.size_toArray, List.size_toArray]; exact sz)
        refine concat_meets ⟨_, ho, rfl⟩ ⟨_, ho2, rfl⟩ noFill_list_add seq_list_add PySem.F.slot_list_add
          PySem.F.entry_list_add (PySem.F.args_list_add_2 _ _) hw ⟨ho, ho2, ?_⟩
        rw [ea]
        exact ⟨.ref _, _, I.lnew (t' := s.toks) (rv.append rv2) (by rw [List.length_append]; omega), rfl, q.newList rel (ra.app rb) I.fresh⟩
      · rw [if_neg z] at g
        cases g
    | _ => cases g
  | tuple xs =>
    cases dy with
    | tuple ys =>
      obtain ⟨a, vs, rfl, sa, ra, ta⟩ := cx.tup
      obtain ⟨b, ws, rfl, sb, rb, tb⟩ := cy.tup
      have g : (if xs.length + ys.length ≤ big then some (Val.d (.tuple (xs ++ ys))) else none) = some res := g
      by_cases z : xs.length + ys.length ≤ big
      · rw [if_pos z] at g
        cases g
        have l1 := ra.len
        have l2 := rb.len
        refine op_catA pins s σ H _ _ v u Q I rx ry ⟨a, b, vs, ws, rfl, rfl, sa, sb, by have := big_line z; omega, fun e => ?_, fun e1 e2 => ?_, fun _ _ p hp => q.newTup rel (ra.app rb) hp⟩
        · subst e
          cases ra
          exact q.here rel (Rp.tup tb rb)
        · subst e2
          cases rb
          rw [List.append_nil] at q
          exact q.here rel (Rp.tup ta ra)
      · rw [if_neg z] at g
        cases g
    | _ => cases g
  | _ => cases g
theorem op_subD : OpR X (binaryOp .Sub) (r2 (Cf X fa ca) subD) := by
  intro pins s σ H x y v u Q I rx ry h
  obtain ⟨τ, env, F, dx, dy, res, rel, cx, cy, g, q⟩ := h
  cases dx with
  | int i =>
    cases dy with
    | int j =>
      cases cx.int
      cases cy.int
      cases g
      exact op_sub pins s σ H _ _ v u Q I rx ry ⟨i, j, rfl, rfl, q.here rel (.int _)⟩
    | _ => cases g
  | _ => cases g
theorem op_fdivD : OpR X (binaryOp .FloorDiv) (r2 (Cf X fa ca) fdivD) := by
  intro pins s σ H x y v u Q I rx ry h
  obtain ⟨τ, env, F, dx, dy, res, rel, cx, cy, g, q⟩ := h
  cases dx with
  | int i =>
    cases dy with
    | int j =>
      cases cx.int
      cases cy.int
      have g : (if 0 < j ∧ j.natAbs.log2 < 9000 then some (Val.d (.int (i / j))) else none) = some res := g
      by_cases z : 0 < j ∧ j.natAbs.log2 < 9000
      · rw [if_pos z] at g
        cases g
        exact op_fdivW pins s σ H _ _ v u Q I rx ry ⟨i, j, rfl, rfl, z, q.here rel (.int _)⟩
      · rw [if_neg z] at g
        cases g
    | _ => cases g
  | _ => cases g
theorem op_modD : OpR X (binaryOp .Mod) (r2 (Cf X fa ca) modD) := by
  intro pins s σ H x y v u Q I rx ry h
  obtain ⟨τ, env, F, dx, dy, res, rel, cx, cy, g, q⟩ := h
  cases dx with
  | int i =>
    cases dy with
    | int j =>
      cases cx.int
      cases cy.int
      have g : (if 0 < j then some (Val.d (.int (i % j))) else none) = some res := g
      by_cases z : 0 < j
      · rw [if_pos z] at g
        cases g
        exact op_mod pins s σ H _ _ v u Q I rx ry ⟨i, j, rfl, rfl, z, q.here rel (.int _)⟩
      · rw [if_neg z] at g
        cases g
    | _ => cases g
  | _ => cases g
theorem op_powW : OpR X (binaryOp .Pow) (rI (fun i j => 0 ≤ j ∧ (Builtin.Int.intBits i : Int) * j ≤ 2 ^ 27) fun i j => .int (i ^ j.toNat)) := opI fun _ _ _ _ _ _ _ hc q => pow_int hc.1 hc.2 q
theorem op_powD : OpR X (binaryOp .Pow) (r2 (Cf X fa ca) powD) := by
  intro pins s σ H x y v u Q I rx ry h
  obtain ⟨τ, env, F, dx, dy, res, rel, cx, cy, g, q⟩ := h
  cases dx with
  | int i =>
    cases dy with
    | int j =>
      cases cx.int
      cases cy.int
      have g : (if 0 ≤ j ∧ (Builtin.Int.intBits i : Int) * j ≤ 2 ^ 27 then some (Val.d (.int (i ^ j.toNat))) else none) = some res := g
      by_cases z : 0 ≤ j ∧ (Builtin.Int.intBits i : Int) * j ≤ 2 ^ 27
      · rw [if_pos z] at g
        cases g
        exact op_powW pins s σ H _ _ v u Q I rx ry ⟨i, j, rfl, rfl, z, q.here rel (.int _)⟩
      · rw [if_neg z] at g
        cases g
    | _ => cases g
  | _ => cases g
theorem op_leD : OpR X (compareOp .LtE) (r2 (Cf X fa ca) leD) := by
  intro pins s σ H x y v u Q I rx ry h
  obtain ⟨τ, env, F, dx, dy, res, rel, cx, cy, g, q⟩ := h
  cases dx with
  | int i =>
    cases dy with
    | int j =>
      cases cx.int
      cases cy.int
      cases g
      exact op_le pins s σ H _ _ v u Q I rx ry ⟨i, j, rfl, rfl, q.here rel (.bl _)⟩
    | _ => cases g
  | _ => cases g
theorem op_gtD : OpR X (compareOp .Gt) (r2 (Cf X fa ca) gtD) := by
  intro pins s σ H x y v u Q I rx ry h
  obtain ⟨τ, env, F, dx, dy, res, rel, cx, cy, g, q⟩ := h
  cases dx with
  | int i =>
    cases dy with
    | int j =>
      cases cx.int
      cases cy.int
      cases g
      exact op_gt pins s σ H _ _ v u Q I rx ry ⟨i, j, rfl, rfl, q.here rel (.bl _)⟩
    | _ => cases g
  | _ => cases g
theorem op_geD : OpR X (compareOp .GtE) (r2 (Cf X fa ca) geD) := by
  intro pins s σ H x y v u Q I rx ry h
  obtain ⟨τ, env, F, dx, dy, res, rel, cx, cy, g, q⟩ := h
  cases dx with
  | int i =>
    cases dy with
    | int j =>
      cases cx.int
      cases cy.int
      cases g
      exact op_ge pins s σ H _ _ v u Q I rx ry ⟨i, j, rfl, rfl, q.here rel (.bl _)⟩
    | _ => cases g
  | _ => cases g
theorem op_ltD : OpR X (compareOp .Lt) (r2 (Cf X fa ca) ltD) := by
  intro pins s σ H x y v u Q I rx ry h
  obtain ⟨τ, env, F, dx, dy, res, rel, cx, cy, g, q⟩ := h
  cases dx with
  | int i =>
    cases dy with
    | int j =>
      cases cx.int
      cases cy.int
      cases g
      exact op_lt pins s σ H _ _ v u Q I rx ry ⟨i, j, rfl, rfl, q.here rel (.bl _)⟩
    | _ => cases g
  | str i =>
    cases dy with
    | str j =>
      cases cx.str
      cases cy.str
      cases g
      exact op_lt_str pins s σ H _ _ v u Q I rx ry ⟨i, j, rfl, rfl, q.here rel (.bl _)⟩
    | _ => cases g
  | _ => cases g
theorem RpA.rep {K : Kf} {F : Hp} {vs : List V} {ds : List D} (h : RpA K F vs ds) : ∀ n, RpA K F (List.replicate n vs).flatten (List.replicate n ds).flatten
  | 0 => .nil
  | n + 1 => by
    rw [List.replicate_succ, List.replicate_succ, List.flatten_cons, List.flatten_cons]
    exact h.app (h.rep n)
theorem op_mulD : OpR X (binaryOp .Mult) (r2 (Cf X fa ca) mulD) := by
  intro pins s σ H x y v u Q I rx ry h
  obtain ⟨τ, env, F, dx, dy, res, rel, cx, cy, g, q⟩ := h
  cases dx with
  | int i =>
    cases dy with
    | int j =>
      cases cx.int
      cases cy.int
      have g : (if (-(2 ^ 64) < i ∧ i < 2 ^ 64) ∨ (-(2 ^ 64) < j ∧ j < 2 ^ 64) then some (Val.d (.int (i * j))) else none) = some res := g
      by_cases z : (-(2 ^ 64) < i ∧ i < 2 ^ 64) ∨ (-(2 ^ 64) < j ∧ j < 2 ^ 64)
      · rw [if_pos z] at g
        cases g
        exact op_mul pins s σ H _ _ v u Q I rx ry ⟨i, j, rfl, rfl, z, q.here rel (.int _)⟩
      · rw [if_neg z] at g
        cases g
    | _ => cases g
  | _ => cases g
theorem op_eqDd (hu : X.A.units + 64 < cLine) : OpR X (compareOp .Eq) (r2 (Cf X fa ca) eqD) := by
  intro pins s σ H x y v u Q I rx ry h
  obtain ⟨τ, env, F, dx, dy, res, rel, cx, cy, g, q⟩ := h
  unfold eqD at g
  by_cases z : SeqAt.shaped dx = true ∧ SeqAt.shaped dy = true
  · rw [if_pos z] at g
    cases g
    exact op_eqD hu pins s σ H _ _ v u Q I rx ry ⟨dx, dy, cx.rp.dps z.1, cy.rp.dps z.2, z.1, z.2, q.here rel (.bl _)⟩
  · rw [if_neg z] at g
    cases g
theorem op_neDd (hu : X.A.units + 64 < cLine) : OpR X (compareOp .NotEq) (r2 (Cf X fa ca) neD) := by
  intro pins s σ H x y v u Q I rx ry h
  obtain ⟨τ, env, F, dx, dy, res, rel, cx, cy, g, q⟩ := h
  unfold neD at g
  by_cases z : SeqAt.shaped dx = true ∧ SeqAt.shaped dy = true
  · rw [if_pos z] at g
    cases g
    exact op_neD hu pins s σ H _ _ v u Q I rx ry ⟨dx, dy, cx.rp.dps z.1, cy.rp.dps z.2, z.1, z.2, q.here rel (.bl _)⟩
  · rw [if_neg z] at g
    cases g
theorem flat_v {F : Hp} {x : D} {v : V} (h : flatD x = true) (r : Rp X.K F v x) : flatV v = true := by
  cases r <;> first | rfl | (simp [flatD] at h)
theorem flat_eqv {F : Hp} {x y : D} {v w : V} (h : flatD x = true) (h' : flatD y = true) (r : Rp X.K F v x) (r' : Rp X.K F w y) : eqV v w = PyData.eqv x y := by
  cases r <;> first | (simp [flatD] at h; done) | (cases r' <;> first | (simp [flatD] at h'; done) | rfl | simp [eqV, PyData.eqv])
theorem flats_v {F : Hp} {xs : List D} {vs : List V} (h : xs.all flatD = true) (r : RpA X.K F vs xs) : vs.all flatV = true := by
  induction xs generalizing vs with
  | nil => cases r; rfl
  | cons x xs ih =>
    rw [List.all_cons, Bool.and_eq_true] at h
    cases r with
    | cons a b => rw [List.all_cons, flat_v h.1 a, ih h.2 b]; rfl
theorem flats_in {F : Hp} {x : D} {v : V} {xs : List D} {vs : List V} (hx : flatD x = true) (h : xs.all flatD = true) (rx : Rp X.K F v x) (r : RpA X.K F vs xs) : inV v vs = xs.any fun z => PyData.eqv z x := by
  unfold inV
  induction xs generalizing vs with
  | nil => cases r; rfl
  | cons y xs ih =>
    rw [List.all_cons, Bool.and_eq_true] at h
    cases r with
    | cons a b => rw [List.any_cons, List.any_cons, flat_eqv h.1 hx a rx, ih h.2 b]
theorem op_inDd (hu : X.A.units + 65 < cLine) : OpR X (compareOp .In) (r2 (Cf X fa ca) inD) := by
  intro pins s σ H x y v u Q I rx ry h
  obtain ⟨τ, env, F, dx, dy, res, rel, cx, cy, g, q⟩ := h
  cases dy with
  | list ds =>
    have g : (if SeqAt.shaped dx = true ∧ SeqAt.shaped (.list ds) = true then some (Val.d (.bool (ds.any fun z => PyData.eqv z dx))) else none) = some res := g
    by_cases z : SeqAt.shaped dx = true ∧ SeqAt.shaped (.list ds) = true
    · rw [if_pos z] at g
      cases g
      exact op_inD hu pins s σ H _ _ v u Q I rx ry ⟨dx, ds, cx.rp.dps z.1, cy.rp.dps z.2, z.1, z.2, q.here rel (.bl _)⟩
    · rw [if_neg z] at g
      cases g
  | tuple ds =>
    have g : (if flatD dx = true ∧ ds.all flatD = true then some (Val.d (.bool (ds.any fun z => PyData.eqv z dx))) else none) = some res := g
    by_cases z : flatD dx = true ∧ ds.all flatD = true
    · rw [if_pos z] at g
      cases g
      obtain ⟨b, ws, rfl, sb, rb, tb⟩ := cy.tup
      refine op_in_seq pins s σ H _ _ v u Q I rx ry ⟨b, ws, rfl, .inr sb, flat_v z.1 cx.rp, flats_v z.2 rb, ?_⟩
      show Q (.bl (inV x ws)) H
      rw [flats_in z.1 z.2 cx.rp (rb.up rel.ex)]
      exact q.here rel (.bl _)
    · rw [if_neg z] at g
      cases g
  | _ => cases g
theorem op_notinDd (hu : X.A.units + 65 < cLine) : OpR X (compareOp .NotIn) (r2 (Cf X fa ca) notinD) := by
  intro pins s σ H x y v u Q I rx ry h
  obtain ⟨τ, env, F, dx, dy, res, rel, cx, cy, g, q⟩ := h
  cases dy with
  | list ds =>
    have g : (if SeqAt.shaped dx = true ∧ SeqAt.shaped (.list ds) = true then some (Val.d (.bool (!ds.any fun z => PyData.eqv z dx))) else none) = some res := g
    by_cases z : SeqAt.shaped dx = true ∧ SeqAt.shaped (.list ds) = true
    · rw [if_pos z] at g
      cases g
      exact op_notInD hu pins s σ H _ _ v u Q I rx ry ⟨dx, ds, cx.rp.dps z.1, cy.rp.dps z.2, z.1, z.2, q.here rel (.bl _)⟩
    · rw [if_neg z] at g
      cases g
  | tuple ds =>
    have g : (if flatD dx = true ∧ ds.all flatD = true then some (Val.d (.bool (!ds.any fun z => PyData.eqv z dx))) else none) = some res := g
    by_cases z : flatD dx = true ∧ ds.all flatD = true
    · rw [if_pos z] at g
      cases g
      obtain ⟨b, ws, rfl, sb, rb, tb⟩ := cy.tup
      refine op_notIn_seq pins s σ H _ _ v u Q I rx ry ⟨b, ws, rfl, .inr sb, flat_v z.1 cx.rp, flats_v z.2 rb, ?_⟩
      show Q (.bl (!inV x ws)) H
      rw [flats_in z.1 z.2 cx.rp (rb.up rel.ex)]
      exact q.here rel (.bl _)
    · rw [if_neg z] at g
      cases g
  | _ => cases g
theorem op_isDd : OpR X (compareOp .Is) (r2 (Cf X fa ca) isD) := by
  intro pins s σ H x y v u Q I rx ry h
  obtain ⟨τ, env, F, dx, dy, res, rel, cx, cy, g, q⟩ := h
  cases dy with
  | none =>
    cases cy.none
    refine op_isN pins s σ H _ _ v u Q I rx ry ⟨rfl, ?_⟩
    cases dx <;> (cases g; have r := cx.rp; cases r; exact q.here rel (.bl _))
  | bool b =>
    cases dx with
    | bool a =>
      cases cx.bool
      cases cy.bool
      cases g
      refine op_is_bl pins s σ H _ _ v u Q I rx ry ⟨a, b, rfl, rfl, ?_⟩
      have e : decide (a = b) = (a == b) := by cases a <;> cases b <;> rfl
      rw [e]
      exact q.here rel (.bl _)
    | _ => cases g
  | _ => cases g
theorem op_isnotDd : OpR X (compareOp .IsNot) (r2 (Cf X fa ca) isnotD) := by
  intro pins s σ H x y v u Q I rx ry h
  obtain ⟨τ, env, F, dx, dy, res, rel, cx, cy, g, q⟩ := h
  cases dy with
  | none =>
    cases cy.none
    refine op_notN pins s σ H _ _ v u Q I rx ry ⟨rfl, ?_⟩
    cases dx <;> (cases g; have r := cx.rp; cases r; exact q.here rel (.bl _))
  | bool b =>
    cases dx with
    | bool a =>
      cases cx.bool
      cases cy.bool
      cases g
      refine op_isnot_bl pins s σ H _ _ v u Q I rx ry ⟨a, b, rfl, rfl, ?_⟩
      have e : decide (a = b) = (a == b) := by cases a <;> cases b <;> rfl
      rw [e]
      exact q.here rel (.bl _)
    | _ => cases g
  | _ => cases g
end
end Pi


set_option Elab.async false
set_option linter.all false
set_option maxRecDepth 100000
set_option autoImplicit false
/-! Pi5: expressions -/
namespace Pi
open PySem PySem.Spec PyProof.Rows L2

/-! ### the runs -/
def slotE (i : Nat) : PEnv → R Val := fun env => match env[i]? with
  | some (some (.val x)) => .ok (.d x) env
  | some (some (.fn f)) => .ok (.fn f) env
  | some (some _) => .ok (.own i) env
  | _ => .stuck
/-- the list of slot i is known from here on -/
def frzE (i : Nat) : PEnv → R Val := fun env => match env[i]? with
  | some (some (.lst xs)) => .ok (.d (.list xs)) (env.set i (some (.val (.list xs))))
  | some (some (.val x)) => .ok (.d x) env
  | _ => .stuck
def cstE (x : D) : PEnv → R Val := fun env => .ok (.d x) env
def fnE (f : Str) : PEnv → R Val := fun env => .ok (.fn f) env
def nilA : PEnv → R (List Val) := fun env => .ok [] env
def consA (m : PEnv → R Val) (ms : PEnv → R (List Val)) : PEnv → R (List Val) := fun env => (m env).bindF fun r env => (ms env).bind fun rs env => .ok (r :: rs) env
def dsOf : List Val → Option (List D)
  | [] => some []
  | .d x :: rs => match dsOf rs with
    | some ds => some (x :: ds)
    | none => none
  | _ :: _ => none
def tupV (rs : List Val) (env : PEnv) : R Val := match dsOf rs with
  | some ds => if ds.length ≤ big then .ok (.d (.tuple ds)) env else .stuck
  | none => .stuck
def lstV (rs : List Val) (env : PEnv) : R Val := match dsOf rs with
  | some ds => if ds.length ≤ big then .ok (.new ds) env else .stuck
  | none => .stuck
def tupE (ms : PEnv → R (List Val)) : PEnv → R Val := fun env => (ms env).bind tupV
def lstE (ms : PEnv → R (List Val)) : PEnv → R Val := fun env => (ms env).bind lstV
def opV (g : D → D → Option Val) (ra rb : Val) (env : PEnv) : R Val := match cont env ra, cont env rb with
  | some x, some y => match g x y with
    | some r => .ok r env
    | none => .stuck
  | _, _ => .stuck
def binE (g : D → D → Option Val) (a b : PEnv → R Val) : PEnv → R Val := fun env => (a env).bindF fun ra env => (b env).bindF fun rb env => opV g ra rb env
def unV (g : D → Option Val) (ra : Val) (env : PEnv) : R Val := match cont env ra with
  | some x => match g x with
    | some r => .ok r env
    | none => .stuck
  | _ => .stuck
def unE (g : D → Option Val) (a : PEnv → R Val) : PEnv → R Val := fun env => (a env).bindF fun ra env => unV g ra env
/-- a test by a value that is a Boolean -/
def boolT (m : PEnv → R Val) : PEnv → R Bool := fun env => (m env).bindF fun r env => match r with
  | .d (.bool b) => .ok b env
  | _ => .stuck
def truthD : D → Option Bool
  | .none => some false
  | .bool b => some b
  | .int i => some (i != 0)
  | .str y => if y.length ≤ big then some ((y.length : Int) != 0) else none
  | .list xs => some (!xs.isEmpty)
  | .tuple xs => some (!xs.isEmpty)
  | .dict kvs => some (!kvs.isEmpty)
def truV (r : Val) (env : PEnv) : R Bool := match cont env r with
  | some x => match truthD x with
    | some b => .ok b env
    | none => .stuck
  | none => .stuck
def truT (m : PEnv → R Val) : PEnv → R Bool := fun env => (m env).bindF truV
def notT (t : PEnv → R Bool) : PEnv → R Bool := fun env => (t env).bind fun b env => .ok (!b) env
def andT (t u : PEnv → R Bool) : PEnv → R Bool := fun env => (t env).bind fun b env => if b then u env else .ok false env
def orT (t u : PEnv → R Bool) : PEnv → R Bool := fun env => (t env).bind fun b env => if b then .ok true env else u env
def iteE (t : PEnv → R Bool) (a b : PEnv → R Val) : PEnv → R Val := fun env => (t env).bind fun c env => if c then a env else b env
/-- and, or, not as values: the first ones Booleans -/
def andE (a b : PEnv → R Val) : PEnv → R Val := fun env => (a env).bindF fun r env => match r with
  | .d (.bool true) => b env
  | .d (.bool false) => .ok (.d (.bool false)) env
  | _ => .stuck
def orE (a b : PEnv → R Val) : PEnv → R Val := fun env => (a env).bindF fun r env => match r with
  | .d (.bool true) => .ok (.d (.bool true)) env
  | .d (.bool false) => b env
  | _ => .stuck
def notE (a : PEnv → R Val) : PEnv → R Val := fun env => (a env).bindF fun r env => match r with
  | .d (.bool b) => .ok (.d (.bool (!b))) env
  | _ => .stuck
/-- a < b < c -/
def chainE (g g' : D → D → Option Val) (a b c : PEnv → R Val) : PEnv → R Val := fun env => (a env).bindF fun ra env => (b env).bindF fun rb env => (opV g ra rb env).bindF fun r env => match r with
  | .d (.bool true) => (c env).bindF fun rc env => opV g' rb rc env
  | .d (.bool false) => .ok (.d (.bool false)) env
  | _ => .stuck
def callE (f : Fn) (ms : PEnv → R (List Val)) : PEnv → R Val := fun env => (ms env).bind (callV f)

section
variable {X : Cx} {fa ca : Str → Addr} {E0 : L2.St → XK}
theorem VRel.slot {K : Kf} {fa : Fs} {F H : Hp} {env : PEnv} {σ : L2.St} (rel : Rel K fa F H env σ) {i : Nat} {s : Slot} (e : env[i]? = some (some s)) : ∃ v, σ[i]? = some (some v) ∧ VRel K fa σ F v (match s with | .val x => .d x | .fn f => .fn f | _ => .own i) := by
  obtain ⟨v, hv, hs⟩ := rel.at_ i s e
  refine ⟨v, hv, ?_⟩
  cases s with
  | val x => exact hs
  | fn f => exact hs
  | lst xs => exact hv
  | bor xs => exact hv
  | set ks => exact hv
theorem e_slot {i : Nat} {x : Str} {pos : Pos} (hN : X.N[i]? = some x) (hv : Vis X.env.scope x) (hd : (x == ("__debug__" : Str)) = false := by decide) (hcd : (x == ("__classdict__" : Str)) = false := by decide) :
    PE X (.Name x pos) (tR (Cf X fa ca) E0 (slotE i)) := by
  refine PE.weak (pe_var hN hv hd hcd) fun σ H Q ⟨env, F, rel, h⟩ => ?_
  unfold slotE at h
  cases e : env[i]? with
  | none => rw [e] at h; exact h.elim
  | some o =>
    cases o with
    | none => rw [e] at h; exact h.elim
    | some s =>
      obtain ⟨v, hv, vr⟩ := VRel.slot rel e
      rw [e] at h
      cases s with
      | val y => exact ⟨v, hv, h.here rel vr⟩
      | fn f => exact ⟨v, hv, h.here rel vr⟩
      | lst xs => exact ⟨v, hv, h.here rel vr⟩
      | bor xs => exact ⟨v, hv, h.here rel vr⟩
      | set ks => exact ⟨v, hv, h.here rel vr⟩
theorem e_frz {i : Nat} {x : Str} {pos : Pos} (hN : X.N[i]? = some x) (hv : Vis X.env.scope x) (hd : (x == ("__debug__" : Str)) = false := by decide) (hcd : (x == ("__classdict__" : Str)) = false := by decide) :
    PE X (.Name x pos) (tR (Cf X fa ca) E0 (frzE i)) := by
  refine PE.weak (pe_var hN hv hd hcd) fun σ H Q ⟨env, F, rel, h⟩ => ?_
  unfold frzE at h
  cases e : env[i]? with
  | none => rw [e] at h; exact h.elim
  | some o =>
    cases o with
    | none => rw [e] at h; exact h.elim
    | some s =>
      rw [e] at h
      cases s with
      | fn f => exact h.elim
      | bor xs => exact h.elim
      | set ks => exact h.elim
      | val y =>
        obtain ⟨v, hv, hs⟩ := rel.at_ i _ e
        exact ⟨v, hv, h.here rel hs⟩
      | lst xs =>
        obtain ⟨v, hv, a, vs, rfl, h1, h2, h3⟩ := rel.at_ i _ e
        refine ⟨_, hv, ?_⟩
        have hi : i < env.length := (List.getElem?_eq_some_iff.mp e).1
        have mu0 : MA env σ a := ⟨i, _, ⟨_, e, rfl⟩, hv⟩
        have ex : Ex F (upd F a (.lst vs)) := Evl.Ex.new h2
        have rp : Rp X.K (upd F a (.lst vs)) (.ref a) (.list xs) := .lst (Evl.sq_of upd_same) (h3.up ex)
        have mu : ∀ {j : Nat} {ys : Mc}, Mu (env.set i (some (.val (.list xs)))) j ys → j ≠ i ∧ Mu env j ys := by
          intro j ys ⟨t, e1, hm⟩
          rcases getSet e1 with ⟨z, e2⟩ | ⟨z, e2⟩
          · cases e2; cases hm
          · exact ⟨z, t, e2, hm⟩
        refine h (.ref a) (upd F a (.lst vs)) H ⟨⟨fun b u q => ?_, by rw [List.length_set]; exact rel.len, fun j t e1 => ?_, fun j k ys zs hne m1 m2 => rel.dis j k ys zs hne (mu m1).2 (mu m2).2⟩, ⟨ex, fun _ q => q, fun b q1 _ q3 => ?_, fun b u q _ => q⟩, fun b ⟨j, ys, m, q⟩ => ⟨j, ys, (mu m).2, q⟩, fun j ys q => ?_⟩ rp
        · by_cases z : b = a
          · subst z; rw [upd_same] at q; cases q; exact h1
          · rw [upd_ne z] at q; exact rel.ex b u q
        · rcases getSet e1 with ⟨z, e2⟩ | ⟨z, e2⟩
          · cases e2
            subst z
            exact ⟨_, hv, rp⟩
          · obtain ⟨w, hw, hs⟩ := rel.at_ j t e2
            refine ⟨w, hw, ?_⟩
            cases hm : t.mut? with
            | some ys =>
              obtain ⟨b, ws, rfl, g1, g2, g3⟩ := hs.mu hm
              have nb : b ≠ a := fun y => rel.dis j i ys _ z ⟨t, e2, hm⟩ ⟨_, e, rfl⟩ (by rw [hw, hv, y])
              exact SRel.of_mu hm ⟨b, ws, rfl, g1, by rw [upd_ne nb]; exact g2, g3.up ex⟩
            | none =>
              cases t with
              | val x => exact Rp.up (show Rp X.K F w x from hs) ex
              | fn f => exact hs
              | lst xs => cases hm
              | bor xs => cases hm
              | set xs => cases hm
        · have z : b ≠ a := fun z => q3 (by rw [z]; exact mu0)
          rw [upd_ne z]; exact q1
        · have z : j ≠ i := fun z => by rw [z, e] at q; cases q
          exact ⟨ys, by rw [List.getElem?_set_ne (fun y => z y.symm)]; exact q⟩
theorem e_cstI {i : Int} {j : Nat} {pos : Pos} : PE X (.Constant (.int i) j pos) (tR (Cf X fa ca) E0 (cstE (.int i))) := PE.weak pe_int fun σ H Q ⟨env, F, rel, h⟩ => h.here rel (.int i)
theorem e_cstB {b : Bool} {j : Nat} {pos : Pos} : PE X (.Constant (.bool b) j pos) (tR (Cf X fa ca) E0 (cstE (.bool b))) := PE.weak pe_bl fun σ H Q ⟨env, F, rel, h⟩ => h.here rel (.bl b)
theorem e_cstN {j : Nat} {pos : Pos} : PE X (.Constant .none j pos) (tR (Cf X fa ca) E0 (cstE .none)) := PE.weak pe_non fun σ H Q ⟨env, F, rel, h⟩ => h.here rel .non
theorem e_cstS {x : Str} {j : Nat} {pos : Pos} : PE X (.Constant (.str x) j pos) (tR (Cf X fa ca) E0 (cstE (.str x))) := PE.weak pe_str fun σ H Q ⟨env, F, rel, h⟩ => h.here rel (.str x)
theorem e_neg {a : Expr} {i : Int} {pos : Pos} (ha : PE X a (tR (Cf X fa ca) E0 (cstE (.int i)))) : PE X (.UnaryOp .USub a pos) (tR (Cf X fa ca) E0 (cstE (.int (-i)))) := by
  refine PE.weak (pe_un un_neg ha) fun σ H Q ⟨env, F, rel, h⟩ => ⟨env, F, rel, ?_⟩
  intro v F' H' n p
  cases (show Rp X.K F' v (.int i) from p)
  exact ⟨i, rfl, h _ F' H' n (.int _)⟩
/-- what a global's name holds -/
def KD (K : Kf) (mg : Str → Option Value) (g : Str) (x : D) : Prop := ∃ u v, mg g = some u ∧ RelV v u ∧ Rp K (fun _ => none) v x
theorem e_glob {g : Str} {x : D} {pos : Pos} (hg : Gl X g) (hm : KD X.K X.mg g x) (hd : (g == ("__debug__" : Str)) = false := by decide) : PE X (.Name g pos) (tR (Cf X fa ca) E0 (cstE x)) := by
  obtain ⟨u, v, h1, h2, h3⟩ := hm
  exact PE.weak (pe_glob hg h1 h2 hd) fun σ H Q ⟨env, F, rel, h⟩ => h.here rel (h3.up fun _ _ z => by cases z)
theorem e_fn {f : Str} {pos : Pos} (hg : Gl X f) (hm : X.mg f = some (.ref (fa f))) (hd : (f == ("__debug__" : Str)) = false := by decide) : PE X (.Name f pos) (tR (Cf X fa ca) E0 (fnE f)) :=
  PE.weak (pe_glob hg hm (v := .ref (fa f)) rfl hd) fun σ H Q ⟨env, F, rel, h⟩ => h.here rel (show V.ref (fa f) = V.ref (fa f) from rfl)

/-! ### lists of expressions, displays -/
theorem a_nil : PA X [] (tRA (Cf X fa ca) E0 nilA) := PA.weak pa_nil fun σ H Q ⟨env, F, rel, h⟩ => h [] F H (Nx.refl rel) .nil
theorem a_cons {e : Expr} {es : List Expr} {m : PEnv → R Val} {ms : PEnv → R (List Val)} (ha : PE X e (tR (Cf X fa ca) E0 m)) (hr : PA X es (tRA (Cf X fa ca) E0 ms)) (hs : starEach (e :: es) X.env = (false, eval e X.env) :: starEach es X.env := by rfl) :
    PA X (e :: es) (tRA (Cf X fa ca) E0 (consA m ms)) := by
  refine PA.weak (pa_cons ha hr hs) fun σ H Q ⟨env, F, rel, h⟩ => ⟨env, F, rel, seqA rel h fun r env1 v F1 H1 n vr h1 => ⟨env1, F1, n.rel, seqLL h1 fun rs env2 vs F2 H2 n2 vrs h2 => ?_⟩⟩
  exact h2 (v :: vs) F2 H2 (Nx.refl n2.rel) (.cons (vr.up n2.adv.fz) vrs)
theorem ds_ok {K : Kf} {fa : Fs} {σ : L2.St} {F : Hp} : ∀ {vs : List V} {rs : List Val} {ds : List D}, VRelA K fa σ F vs rs → dsOf rs = some ds → RpA K F vs ds := by
  intro vs rs ds h
  induction h generalizing ds with
  | nil => intro e; cases e; exact .nil
  | @cons v vs r rs a _ ih =>
    intro e
    cases r with
    | d x =>
      have e : (match dsOf rs with | some ds => some (x :: ds) | none => none) = some ds := e
      cases q : dsOf rs with
      | none => rw [q] at e; cases e
      | some es => rw [q] at e; cases e; exact .cons a (ih q)
    | own i => cases e
    | new xs => cases e
    | fn f => cases e
theorem e_tup {es : List Expr} {k : Nat} {ms : PEnv → R (List Val)} {pos : Pos} (h : PA X es (tRA (Cf X fa ca) E0 ms)) : PE X (.Tuple es k pos) (tR (Cf X fa ca) E0 (tupE ms)) := by
  refine PE.weak (pe_tup h) fun σ H Q ⟨env, F, rel, h⟩ => ⟨env, F, rel, seqLE h fun rs env1 vs F1 H1 n vrs h1 => ?_⟩
  unfold tupV at h1
  cases e : dsOf rs with
  | none => rw [e] at h1; exact h1.elim
  | some ds =>
    rw [e] at h1
    dsimp only at h1
    have ra := ds_ok vrs e
    by_cases z : ds.length ≤ big
    · rw [if_pos z] at h1
      exact ⟨by rw [ra.len]; exact big_line z, fun p hp => h1.newTup n.rel ra hp⟩
    · rw [if_neg z] at h1; exact h1.elim
theorem e_lst {es : List Expr} {ms : PEnv → R (List Val)} {pos : Pos} (h : PA X es (tRA (Cf X fa ca) E0 ms)) : PE X (.List es pos) (tR (Cf X fa ca) E0 (lstE ms)) := by
  refine PE.weak (pe_lst h) fun σ H Q ⟨env, F, rel, h⟩ => ⟨env, F, rel, seqLE h fun rs env1 vs F1 H1 n vrs h1 => ?_⟩
  unfold lstV at h1
  cases e : dsOf rs with
  | none => rw [e] at h1; exact h1.elim
  | some ds =>
    rw [e] at h1
    dsimp only at h1
    have ra := ds_ok vrs e
    by_cases z : ds.length ≤ big
    · rw [if_pos z] at h1
      exact ⟨by rw [ra.len]; exact big_line z, fun p hp => h1.newList n.rel ra hp⟩
    · rw [if_neg z] at h1; exact h1.elim

/-! ### operators -/
theorem Post.anyE {C : Cfg} {σ : L2.St} {env : PEnv} {F H : Hp} {r : Val} {e1 : PEnv} {Q : VK} {E1 E2 : L2.St → XK} (h : Post C E1 σ env F H (.ok r e1) Q) : Post C E2 σ env F H (.ok r e1) Q := h
theorem opV_ok {C : Cfg} {g : D → D → Option Val} {ra rb : Val} {σ : L2.St} {env : PEnv} {F H : Hp} {v w : V} {Q : VK} (rel : Rel C.K C.fa F H env σ) (ha : VRel C.K C.fa σ F v ra) (hb : VRel C.K C.fa σ F w rb) (h : Post C E0 σ env F H (opV g ra rb env) Q) : r2 C g v w H Q := by
  unfold opV at h
  cases ea : cont env ra with
  | none => rw [ea] at h; exact h.elim
  | some x =>
    cases eb : cont env rb with
    | none => rw [ea, eb] at h; exact h.elim
    | some y =>
      rw [ea, eb] at h
      dsimp only at h
      cases eg : g x y with
      | none => rw [eg] at h; exact h.elim
      | some r =>
        rw [eg] at h
        exact ⟨σ, env, F, x, y, r, rel, cont_ct rel ha ea, cont_ct rel hb eb, eg, h⟩
theorem unV_ok {C : Cfg} {g : D → Option Val} {ra : Val} {σ : L2.St} {env : PEnv} {F H : Hp} {v : V} {Q : VK} (rel : Rel C.K C.fa F H env σ) (ha : VRel C.K C.fa σ F v ra) (h : Post C E0 σ env F H (unV g ra env) Q) : r1 C g v H Q := by
  unfold unV at h
  cases ea : cont env ra with
  | none => rw [ea] at h; exact h.elim
  | some x =>
    rw [ea] at h
    dsimp only at h
    cases eg : g x with
    | none => rw [eg] at h; exact h.elim
    | some r =>
      rw [eg] at h
      exact ⟨σ, env, F, x, r, rel, cont_ct rel ha ea, eg, h⟩
theorem bin_weak {g : D → D → Option Val} {ma mb : PEnv → R Val} {σ : L2.St} {H : Hp} {Q : VK} (h : tR (Cf X fa ca) E0 (binE g ma mb) σ H Q) : tOp (r2 (Cf X fa ca) g) (tR (Cf X fa ca) E0 ma) (tR (Cf X fa ca) E0 mb) σ H Q := by
  obtain ⟨env, F, rel, h⟩ := h
  exact ⟨env, F, rel, seqE rel h fun ra env1 v F1 H1 n vr h1 => ⟨env1, F1, n.rel, seqE n.rel h1 fun rb env2 w F2 H2 n2 wr h2 => opV_ok n2.rel (vr.up n2.adv.fz) wr h2⟩⟩
theorem e_bin {op : Operator} {g : D → D → Option Val} {a b : Expr} {ma mb : PEnv → R Val} {pos : Pos} (ho : OpR X (binaryOp op) (r2 (Cf X fa ca) g)) (ha : PE X a (tR (Cf X fa ca) E0 ma)) (hb : PE X b (tR (Cf X fa ca) E0 mb)) :
    PE X (.BinOp a op b pos) (tR (Cf X fa ca) E0 (binE g ma mb)) := PE.weak (pe_op ho ha hb) fun σ H Q h => bin_weak h
theorem e_cmp {op : CmpOp} {g : D → D → Option Val} {a b : Expr} {ma mb : PEnv → R Val} {pos : Pos} (ho : OpR X (compareOp op) (r2 (Cf X fa ca) g)) (ha : PE X a (tR (Cf X fa ca) E0 ma)) (hb : PE X b (tR (Cf X fa ca) E0 mb)) (hm : behindInMarks op b = false) :
    PE X (.Compare a [op] [b] pos) (tR (Cf X fa ca) E0 (binE g ma mb)) := PE.weak (pe_cmpR ho ha hb hm) fun σ H Q h => bin_weak h
/-- a test by a Boolean value -/
theorem bool_weak {m : PEnv → R Val} {σ : L2.St} {H : Hp} {Q : Bool → Hp → Prop} (h : tRT (Cf X fa ca) E0 (boolT m) σ H Q) : tTest (tR (Cf X fa ca) E0 m) σ H Q := by
  obtain ⟨env, F, rel, h⟩ := h
  refine ⟨env, F, rel, seqT rel h fun r env1 v F1 H1 n vr h1 => ?_⟩
  cases r with
  | d x =>
    cases x with
    | bool b =>
      cases (show Rp X.K F1 v (.bool b) from vr)
      exact ⟨b, rfl, h1 F1 H1 (Nx.refl n.rel)⟩
    | _ => exact h1.elim
  | _ => exact h1.elim
theorem t_cmp {op : CmpOp} {g : D → D → Option Val} {a b : Expr} {ma mb : PEnv → R Val} {pos : Pos} (ho : OpR X (compareOp op) (r2 (Cf X fa ca) g)) (ha : PE X a (tR (Cf X fa ca) E0 ma)) (hb : PE X b (tR (Cf X fa ca) E0 mb)) (hm : behindInMarks op b = false) :
    PT X (.Compare a [op] [b] pos) (tRT (Cf X fa ca) E0 (boolT (binE g ma mb))) := by
  refine PT.weak (pt_cmpR ho ha hb hm) fun σ H Q h => ?_
  have h2 := bool_weak h
  obtain ⟨env, F, rel, h3⟩ := h2
  exact bin_weak ⟨env, F, rel, h3⟩
/-- a test by a value's truth -/
theorem t_tru {a : Expr} {m : PEnv → R Val} (ha : PE X a (tR (Cf X fa ca) E0 m)) (he : ∀ whole, isTrue a X.env whole = (do let v ← whole; standAt a.pos; holding [v] (truthy v))) : PT X a (tRT (Cf X fa ca) E0 (truT m)) := by
  refine PT.weak (pt_truth ha he) fun σ H Q ⟨env, F, rel, h⟩ => ⟨env, F, rel, seqT rel h fun r env1 v F1 H1 n vr h1 => ?_⟩
  unfold truV at h1
  cases ec : cont env1 r with
  | none => rw [ec] at h1; exact h1.elim
  | some x =>
    rw [ec] at h1
    dsimp only at h1
    cases et : truthD x with
    | none => rw [et] at h1; exact h1.elim
    | some b =>
      rw [et] at h1
      have rp := (cont_ct n.rel vr ec).rp
      refine ⟨b, ?_, h1 F1 H1 (Nx.refl n.rel)⟩
      cases rp with
      | non => cases et; rfl
      | bl c => cases et; rfl
      | int i => cases et; rfl
      | str y =>
        have et : (if y.length ≤ big then some ((y.length : Int) != 0) else none) = some b := et
        by_cases z : y.length ≤ big
        · rw [if_pos z] at et; cases et; exact ⟨big_line z, rfl⟩
        · rw [if_neg z] at et; cases et
      | lst a b' =>
        cases et
        exact .inl ⟨_, a, by cases b' <;> rfl⟩
      | tup a b' =>
        cases et
        exact .inr (.inl ⟨_, a, by cases b' <;> rfl⟩)
      | dic a b' =>
        cases et
        exact .inr (.inr ⟨_, a, by cases b' <;> rfl⟩)
theorem t_not {a : Expr} {t : PEnv → R Bool} {pos : Pos} (ha : PT X a (tRT (Cf X fa ca) E0 t)) : PT X (.UnaryOp .Not a pos) (tRT (Cf X fa ca) E0 (notT t)) := by
  refine PT.weak (pt_not ha) fun σ H Q ⟨env, F, rel, h⟩ => ⟨env, F, rel, seqTT h fun b env1 F1 H1 n h1 => ?_⟩
  exact h1 F1 H1 (Nx.refl n.rel)
theorem w_and {a b : Expr} {rest : List Expr} {t u : PEnv → R Bool} {pos : Pos} (ha : PT X a (tRT (Cf X fa ca) E0 t)) (hb : PW X (.BoolOp .And (b :: rest) pos) (tRT (Cf X fa ca) E0 u)) : PW X (.BoolOp .And (a :: b :: rest) pos) (tRT (Cf X fa ca) E0 (andT t u)) := by
  refine PW.weak (pw_and ha hb) fun σ H Q ⟨env, F, rel, h⟩ => ⟨env, F, rel, seqTT h fun c env1 F1 H1 n h1 => ?_⟩
  cases c with
  | true => exact ⟨env1, F1, n.rel, h1⟩
  | false => exact h1 F1 H1 (Nx.refl n.rel)
theorem w_or {a b : Expr} {rest : List Expr} {t u : PEnv → R Bool} {pos : Pos} (ha : PT X a (tRT (Cf X fa ca) E0 t)) (hb : PW X (.BoolOp .Or (b :: rest) pos) (tRT (Cf X fa ca) E0 u)) : PW X (.BoolOp .Or (a :: b :: rest) pos) (tRT (Cf X fa ca) E0 (orT t u)) := by
  refine PW.weak (pw_or ha hb) fun σ H Q ⟨env, F, rel, h⟩ => ⟨env, F, rel, seqTT h fun c env1 F1 H1 n h1 => ?_⟩
  cases c with
  | true => exact h1 F1 H1 (Nx.refl n.rel)
  | false => exact ⟨env1, F1, n.rel, h1⟩
theorem e_ite {c a b : Expr} {t : PEnv → R Bool} {ma mb : PEnv → R Val} {pos : Pos} (hc : PT X c (tRT (Cf X fa ca) E0 t)) (ha : PE X a (tR (Cf X fa ca) E0 ma)) (hb : PE X b (tR (Cf X fa ca) E0 mb)) : PE X (.IfExp c a b pos) (tR (Cf X fa ca) E0 (iteE t ma mb)) := by
  refine PE.weak (pe_ifExp hc ha hb) fun σ H Q ⟨env, F, rel, h⟩ => ⟨env, F, rel, seqTE h fun c env1 F1 H1 n h1 => ?_⟩
  cases c with
  | true => exact ⟨env1, F1, n.rel, h1⟩
  | false => exact ⟨env1, F1, n.rel, h1⟩
theorem e_and {a b : Expr} {rest : List Expr} {ma mb : PEnv → R Val} {pos : Pos} (ha : PE X a (tR (Cf X fa ca) E0 ma)) (hb : PE X (.BoolOp .And (b :: rest) pos) (tR (Cf X fa ca) E0 mb)) : PE X (.BoolOp .And (a :: b :: rest) pos) (tR (Cf X fa ca) E0 (andE ma mb)) := by
  refine PE.weak (pe_and ha hb) fun σ H Q ⟨env, F, rel, h⟩ => ⟨env, F, rel, seqE rel h fun r env1 v F1 H1 n vr h1 => ?_⟩
  cases r with
  | d x =>
    cases x with
    | bool b =>
      cases (show Rp X.K F1 v (.bool b) from vr)
      refine ⟨b, rfl, ?_⟩
      cases b with
      | true => exact ⟨env1, F1, n.rel, h1⟩
      | false => exact h1.here n.rel (Rp.bl false)
    | _ => exact h1.elim
  | _ => exact h1.elim
theorem e_or {a b : Expr} {rest : List Expr} {ma mb : PEnv → R Val} {pos : Pos} (ha : PE X a (tR (Cf X fa ca) E0 ma)) (hb : PE X (.BoolOp .Or (b :: rest) pos) (tR (Cf X fa ca) E0 mb)) : PE X (.BoolOp .Or (a :: b :: rest) pos) (tR (Cf X fa ca) E0 (orE ma mb)) := by
  refine PE.weak (pe_or ha hb) fun σ H Q ⟨env, F, rel, h⟩ => ⟨env, F, rel, seqE rel h fun r env1 v F1 H1 n vr h1 => ?_⟩
  cases r with
  | d x =>
    cases x with
    | bool b =>
      cases (show Rp X.K F1 v (.bool b) from vr)
      refine ⟨b, rfl, ?_⟩
      cases b with
      | true => exact h1.here n.rel (Rp.bl true)
      | false => exact ⟨env1, F1, n.rel, h1⟩
    | _ => exact h1.elim
  | _ => exact h1.elim
theorem e_not {a : Expr} {ma : PEnv → R Val} {pos : Pos} (hv : PE X a (tR (Cf X fa ca) E0 ma)) : PE X (.UnaryOp .Not a pos) (tR (Cf X fa ca) E0 (notE ma)) := by
  refine PE.weak (pe_not hv) fun σ H Q ⟨env, F, rel, h⟩ => ⟨env, F, rel, seqE rel h fun r env1 v F1 H1 n vr h1 => ?_⟩
  cases r with
  | d x =>
    cases x with
    | bool b =>
      cases (show Rp X.K F1 v (.bool b) from vr)
      exact ⟨b, rfl, h1.here n.rel (Rp.bl _)⟩
    | _ => exact h1.elim
  | _ => exact h1.elim
end
end Pi


set_option Elab.async false
set_option linter.all false
set_option maxRecDepth 100000
set_option autoImplicit false
/-! Pi6: defs of the program: their promise, the rule by the body, the call -/
namespace Pi
open PySem PySem.Spec PyProof.Rows L2

/-- as FnOk, where no repr is under way -/
structure FnG (P : Program) (w : World) (K : Kf) (mg : Str → Option Value) (base : Heap) (CX : CXT) (k : Nat) (f : Addr) (fd : FuncData) (ps : List Str) (sp : Sp) : Prop where
  len : ∀ vs H Q E, sp vs H Q E → vs.length = ps.length
  run : ∀ (A : Around) (outer : List Env) (s : Shared) (H : Hp) (args : Args) (us : List Value) (vs : List V) (Q : VK) (E : XK), Room k A → A.guards = some [] →
    Env0 P w K mg base A outer s H → BindsTo s fd args (ps.zip us) → Vals vs us → sp vs H Q E → codeAny (model P w) A (.call (.ref f) args) (CR CX outer P w H s Q E) s

section
variable {X : Cx} {CX : CXT} {k : Nat} {f : Addr} {fd : FuncData} {ps : List Str} {sp : Sp} {dvs : List V} {ds : List Value} {E : L2.St → XK} {x : Str} {p pos : Pos} {e : Expr} {es : List Expr} {t : TA}
theorem runG {pins : List (Addr × Obj)} {σ : L2.St} {H : Hp} {s : Shared} {Q : VK} {us : List Value} {vs : List V} (G : FnG X.prog X.w X.K X.mg X.base CX k f fd ps sp) (room : Room k X.A) (gd : X.A.guards = some []) (bd : Binds X.K fd ps ds) (dv : Vals dvs ds)
    (hp : PassesAt CX X σ (E σ)) (inv : Inv X pins σ H s) (va : Vals vs us) (hsp : sp (vs ++ dvs) H Q (E σ)) : wpAny (model X.prog X.w) X.A (call (.ref f) us) (EP X pins σ Q) X.xe s := by
  have vall : Vals (vs ++ dvs) (us ++ ds) := va.append dv
  have lall : (us ++ ds).length = ps.length := vall.length ▸ G.len _ _ _ _ hsp
  have go := G.run X.A X.stack s H ⟨us, []⟩ (us ++ ds) (vs ++ dvs) Q (E σ) room gd inv.env0 (bd s us inv.kIn lall) vall hsp
  refine wpAny_call (codeAny_mono go fun r s' hq => ?_)
  match r, hq with
  | .error e, hq => exact hp pins H s e s' inv hq
  | .ok (.ret u), hq => exact inv.after hq
  | .ok .next, hq => exact False.elim hq
  | .ok .brk, hq => exact False.elim hq
  | .ok .cont, hq => exact False.elim hq
theorem pe_callG (G : FnG X.prog X.w X.K X.mg X.base CX k f fd ps sp) (room : Room k X.A) (gd : X.A.guards = some []) (hg : Gl X x) (hm : X.mg x = some (.ref f)) (hk : PySem.W.keepIn X.K (.ref f) = true) (bd : Binds X.K fd ps ds) (dv : Vals dvs ds)
    (hp : ∀ σ, PassesAt CX X σ (E σ)) (ha : PA X (e :: es) t) (hdb : (x == ("__debug__" : Str)) = false := by decide)
    (he : starEach (e :: es) X.env = (false, eval e X.env) :: starEach es X.env := by rfl) (hpl : (backTo pos (starEach es X.env)).any (·.1) = false := by rfl) :
    PE X (.Call (.Name x p) (e :: es) [] pos) (tCallSD sp dvs E t) := by
  refine ⟨fun pins s σ H Q inv h => wpAny_Call_Name_kw (ld_glob inv hg hm ?_ hdb)⟩
  have harg := ha.run pos pins s σ H _ inv h
  exact PySem.W.callWith_K (h₀ := X.base) inv.ok.mod.kin hk (thn harg fun us s1 ⟨vs, H1, inv1, va, q⟩ => ⟨inv1.kIn, runG G room gd bd dv (hp σ) inv1 va q⟩) he hpl
theorem pe_callG0 (G : FnG X.prog X.w X.K X.mg X.base CX k f fd ps sp) (room : Room k X.A) (gd : X.A.guards = some []) (hg : Gl X x) (hm : X.mg x = some (.ref f)) (hk : PySem.W.keepIn X.K (.ref f) = true) (bd : Binds X.K fd ps ds) (dv : Vals dvs ds)
    (hp : ∀ σ, PassesAt CX X σ (E σ)) (hdb : (x == ("__debug__" : Str)) = false := by decide) : PE X (.Call (.Name x p) [] [] pos) (tCallSD sp dvs E tNil) :=
  ⟨fun pins s σ H Q inv h => wpAny_Call_Name_kw (ld_glob inv hg hm (PySem.W.callWith_K0 inv.kIn hk (runG (us := []) G room gd bd dv (hp σ) inv .nil h)) hdb)⟩
/-- THE RULE of a def by its body -/
theorem fnG_of {P : Program} {w : World} {K : Kf} {mg : Str → Option Value} {base : Heap} {qual name : Str} {params : Arguments} {body : List Stmt} {scope : Scope} {dvs : List V} {kws : List (Str × V)} {N : List Str}
    (FD : FunD K name qual params body scope dvs kws f fd) (S : FnScope N ps scope) (len : ∀ vs H Q E, sp vs H Q E → vs.length = ps.length)
    (hbody : ∀ (cdv : Value) (A : Around) (outer : List Env) (s : Shared) (H : Hp) (vs : List V) (Q : VK) (E : XK), Room k (A.deeper (envOfC qual scope s.heap.objs.size f cdv)) → (A.deeper (envOfC qual scope s.heap.objs.size f cdv)).guards = some [] → sp vs H Q E →
      ∃ t, PSs (cxOf CX P w K mg base N qual scope f cdv A outer s H E) body t ∧ t { nx := fun _ H' => Q .non H', rt := Q } (start N vs) H) : FnG P w K mg base CX (k + 1) f fd ps sp := by
  obtain ⟨oc, od, dV, kV, doc, pm, an, cdv, ct, osl, rfl, lk, hcd, _, _⟩ := FD.ex
  refine ⟨len, fun A outer s H args us vs Q E room gd en bnd va hsp => ?_⟩
  have inK : K.In s.heap := en.mod.kin.keeps fun b o q => (en.bs b o q).1
  have noLim : s.heap.NoLimit := en.mod.nolimit.keeps fun b o q => (en.bs b o q).1
  have kinds : ∀ y ∈ ps.zip us, scope.names.lookup y.1 = some .local ∨ (scope.names.lookup y.1 = some .cell ∧ ((cellsFrom (s.heap.objs.size + 1) scope.names []).lookup y.1).isSome = true) := by
    rintro ⟨n, v⟩ hy
    exact (S.par n (List.of_mem_zip hy).1).imp (fun q => q) fun q => ⟨q, PySem.W.cellsFrom_some _ _ _ (.inl q)⟩
  refine codeAny_call_function room.depth (inK _ _ lk) rfl S.co S.gen rfl
    (PySem.W.codeRec_of inK hcd) (bnd _ _ _ _ (wpAny_newFunctionEnv_cells S.kind kinds fun env he s1 xin => ?_))
  subst he
  obtain ⟨t, ht, hq⟩ := hbody cdv A outer s H vs Q E (room.deeper _) gd hsp
  have inv := inv_start (cd := cdv) (CX := CX) (P := P) (w := w) (mg := mg) (base := base) (E := E) S room.hd en (len _ _ _ _ hsp) va xin
  refine ⟨noLim.keeps xin.toInCall.keep, codeAny_func (wpAny_mono (ht.run [] s1 (start N vs) H _ inv hq) (fun fl s' hs => ?_) fun e s' hs => hs)⟩
  match fl, hs with
  | .ret u, ⟨v, σ', H', J, rv, q⟩ => exact ⟨v, H', J.os, J.bare, J.base, J.hok, rv, q⟩
  | .next, ⟨σ', H', J, q⟩ => exact ⟨V.non, H', J.os, J.bare, J.base, J.hok, rfl, q⟩
  | .brk, ⟨_, _, _, q⟩ => exact False.elim q
  | .cont, ⟨_, _, _, q⟩ => exact False.elim q
end

section
variable {X : Cx} {fa ca : Str → Addr} {E0 : L2.St → XK} {CX : CXT} {k : Nat} {fd : FuncData} {ps : List Str} {x : Str} {p pos : Pos} {e : Expr} {es : List Expr} {f : Fn} {ms : PEnv → R (List Val)}
/-- f(e, ..) -/
theorem e_call (G : FnG X.prog X.w X.K X.mg X.base CX k (fa x) fd ps (spOf (Cf X fa ca) f)) (room : Room k X.A) (gd : X.A.guards = some []) (hg : Gl X x) (hm : X.mg x = some (.ref (fa x))) (hk : PySem.W.keepIn X.K (.ref (fa x)) = true) (bd : Binds X.K fd ps [])
    (hp : ∀ σ, PassesAt CX X σ (E0 σ)) (ha : PA X (e :: es) (tRA (Cf X fa ca) E0 ms)) (hdb : (x == ("__debug__" : Str)) = false := by decide)
    (he : starEach (e :: es) X.env = (false, eval e X.env) :: starEach es X.env := by rfl) (hpl : (backTo pos (starEach es X.env)).any (·.1) = false := by rfl) :
    PE X (.Call (.Name x p) (e :: es) [] pos) (tR (Cf X fa ca) E0 (callE f ms)) := by
  refine PE.weak (pe_callG G room gd hg hm hk bd .nil hp ha hdb he hpl) fun σ H Q ⟨env, F, rel, h⟩ => ⟨env, F, rel, seqLE h fun rs env1 vs F1 H1 n vrs h1 => ?_⟩
  show spOf (Cf X fa ca) f (vs ++ []) H1 Q (E0 σ)
  rw [List.append_nil]
  exact callV_sp n.rel vrs h1
end

/-! ### from the promise to the body -/
def slotsOf : List Arg → PEnv
  | [] => []
  | .d x :: as => some (.val x) :: slotsOf as
  | .fn f :: as => some (.fn f) :: slotsOf as
  | .bor xs :: as => some (.bor xs) :: slotsOf as
/-- the lists that were lent, as they are now -/
def borsOf : PEnv → List Arg → Option (List (List D))
  | _, [] => some []
  | some (.bor xs) :: env, .bor _ :: as => match borsOf env as with
    | some os => some (xs :: os)
    | none => none
  | _ :: env, .d _ :: as => borsOf env as
  | _ :: env, .fn _ :: as => borsOf env as
  | _, _ => none
/-- a def's run: n names in all, the body's run -/
def runF (np n : Nat) (m : PEnv → R Flow) : Fn := fun args => if args.length = np then
  match m (slotsOf args ++ List.replicate (n - args.length) none) with
  | .stuck => .stuck
  | .ok .nx env => match borsOf env args with
    | some os => .ret (.d .none) os
    | none => .stuck
  | .ok (.ret r) env => match borsOf env args with
    | some os => .ret r os
    | none => .stuck
  | .ok _ _ => .stuck
  | .exc c x env => match borsOf env args with
    | some os => .exc c x os
    | none => .stuck
  else .stuck
section
variable {C : Cfg} {F H : Hp}
theorem slotsOf_len : ∀ args : List Arg, (slotsOf args).length = args.length
  | [] => rfl
  | .d _ :: as => by simp [slotsOf, slotsOf_len as]
  | .fn _ :: as => by simp [slotsOf, slotsOf_len as]
  | .bor _ :: as => by simp [slotsOf, slotsOf_len as]
theorem ARel.len {vs : List V} {args : List Arg} {bs : List Addr} (h : ARel C F H vs args bs) : vs.length = args.length := by
  induction h with
  | nil => rfl
  | d _ _ ih => simp [ih]
  | fn _ ih => simp [ih]
  | bor _ _ _ _ _ ih => simp [ih]
/-- where the lent lists stand among the slots -/
def bIdx : Nat → List Arg → List Nat
  | _, [] => []
  | i, .bor _ :: as => i :: bIdx (i + 1) as
  | i, _ :: as => bIdx (i + 1) as
theorem ARel.slots {vs : List V} {args : List Arg} {bs : List Addr} (h : ARel C F H vs args bs) : ∀ (i : Nat) (s : Slot), (slotsOf args)[i]? = some (some s) → ∃ v, vs[i]? = some v ∧ SRel C.K C.fa F H v s := by
  induction h with
  | nil => intro i s e; simp [slotsOf] at e
  | d r _ ih =>
    intro i s e
    cases i with
    | zero => simp [slotsOf] at e; subst e; exact ⟨_, rfl, r⟩
    | succ i => simpa using ih i s (by simpa [slotsOf] using e)
  | fn _ ih =>
    intro i s e
    cases i with
    | zero => simp [slotsOf] at e; subst e; exact ⟨_, rfl, rfl⟩
    | succ i => simpa using ih i s (by simpa [slotsOf] using e)
  | bor h1 h2 h3 _ _ ih =>
    intro i s e
    cases i with
    | zero => simp [slotsOf] at e; subst e; exact ⟨_, rfl, _, _, rfl, h1, h2, h3⟩
    | succ i => simpa using ih i s (by simpa [slotsOf] using e)
/-- a slot that holds a lent list stands at a lent address; two such stand apart -/
theorem ARel.lent {vs : List V} {args : List Arg} {bs : List Addr} (h : ARel C F H vs args bs) : ∀ (i : Nat) (s : Slot) (xs : Mc), (slotsOf args)[i]? = some (some s) → s.mut? = some xs → ∃ a, vs[i]? = some (.ref a) ∧ a ∈ bs := by
  induction h with
  | nil => intro i s xs e; simp [slotsOf] at e
  | d r _ ih =>
    intro i s xs e m
    cases i with
    | zero => simp [slotsOf] at e; subst e; cases m
    | succ i => simpa using ih i s xs (by simpa [slotsOf] using e) m
  | fn _ ih =>
    intro i s xs e m
    cases i with
    | zero => simp [slotsOf] at e; subst e; cases m
    | succ i => simpa using ih i s xs (by simpa [slotsOf] using e) m
  | @bor a ws ys vs as bs h1 h2 h3 _ _ ih =>
    intro i s xs e m
    cases i with
    | zero => exact ⟨a, rfl, List.mem_cons_self⟩
    | succ i =>
      obtain ⟨b, h1, h2⟩ := ih i s xs (by simpa [slotsOf] using e) m
      exact ⟨b, by simpa using h1, List.mem_cons_of_mem _ h2⟩
theorem ARel.apart {vs : List V} {args : List Arg} {bs : List Addr} (h : ARel C F H vs args bs) : ∀ (i j : Nat) (s t : Slot) (xs ys : Mc), i ≠ j → (slotsOf args)[i]? = some (some s) → s.mut? = some xs → (slotsOf args)[j]? = some (some t) → t.mut? = some ys → vs[i]? ≠ vs[j]? := by
  induction h with
  | nil => intro i j s t xs ys _ e; simp [slotsOf] at e
  | d r _ ih =>
    intro i j s t xs ys hne e m e2 m2
    cases i with
    | zero => simp [slotsOf] at e; subst e; cases m
    | succ i =>
      cases j with
      | zero => simp [slotsOf] at e2; subst e2; cases m2
      | succ j => simpa using ih i j s t xs ys (by omega) (by simpa [slotsOf] using e) m (by simpa [slotsOf] using e2) m2
  | fn _ ih =>
    intro i j s t xs ys hne e m e2 m2
    cases i with
    | zero => simp [slotsOf] at e; subst e; cases m
    | succ i =>
      cases j with
      | zero => simp [slotsOf] at e2; subst e2; cases m2
      | succ j => simpa using ih i j s t xs ys (by omega) (by simpa [slotsOf] using e) m (by simpa [slotsOf] using e2) m2
  | @bor a ws zs vs as bs h1 h2 h3 h4 h5 ih =>
    intro i j s t xs ys hne e m e2 m2
    cases i with
    | zero =>
      cases j with
      | zero => exact absurd rfl hne
      | succ j =>
        obtain ⟨b, g1, g2⟩ := h5.lent j t ys (by simpa [slotsOf] using e2) m2
        intro q
        have q : some (V.ref a) = vs[j]? := by simpa using q
        rw [g1] at q
        cases q
        exact h4 g2
    | succ i =>
      cases j with
      | zero =>
        obtain ⟨b, g1, g2⟩ := h5.lent i s xs (by simpa [slotsOf] using e) m
        intro q
        have q : vs[i]? = some (V.ref a) := by simpa using q
        rw [g1] at q
        cases q
        exact h4 g2
      | succ j => simpa using ih i j s t xs ys (by omega) (by simpa [slotsOf] using e) m (by simpa [slotsOf] using e2) m2
end
end Pi


set_option Elab.async false
set_option linter.all false
set_option maxRecDepth 100000
set_option autoImplicit false
/-! Pi7: a def keeps the promise of its run -/
namespace Pi
open PySem PySem.Spec PyProof.Rows L2

section
variable {C : Cfg} {F H : Hp}
theorem ARel.bmap {vs : List V} {args : List Arg} {bs : List Addr} (h : ARel C F H vs args bs) : ∀ i, ((bIdx i args).zip bs).map (·.2) = bs := by
  induction h with
  | nil => intro i; rfl
  | d _ _ ih => intro i; exact ih (i + 1)
  | fn _ ih => intro i; exact ih (i + 1)
  | @bor a ws ys vs as bs _ _ _ _ _ ih => intro i; exact congrArg (List.cons a) (ih (i + 1))
theorem ARel.bat {vs : List V} {args : List Arg} {bs : List Addr} (h : ARel C F H vs args bs) : ∀ (i : Nat), ∀ p ∈ (bIdx i args).zip bs, i ≤ p.1 ∧ vs[p.1 - i]? = some (.ref p.2) ∧ ∃ xs, (slotsOf args)[p.1 - i]? = some (some (.bor xs)) := by
  induction h with
  | nil => intro i p hp; cases hp
  | d _ _ ih =>
    intro i p hp
    obtain ⟨h1, h2, xs, h3⟩ := ih (i + 1) p hp
    have e : p.1 - i = (p.1 - (i + 1)) + 1 := by omega
    exact ⟨by omega, by rw [e]; simpa using h2, xs, by rw [e]; simpa [slotsOf] using h3⟩
  | fn _ ih =>
    intro i p hp
    obtain ⟨h1, h2, xs, h3⟩ := ih (i + 1) p hp
    have e : p.1 - i = (p.1 - (i + 1)) + 1 := by omega
    exact ⟨by omega, by rw [e]; simpa using h2, xs, by rw [e]; simpa [slotsOf] using h3⟩
  | @bor a ws ys vs as bs _ _ _ _ _ ih =>
    intro i p hp
    rcases List.mem_cons.mp (show p ∈ (i, a) :: (bIdx (i + 1) as).zip bs from hp) with q | q
    · subst q
      exact ⟨Nat.le_refl _, by simp, ys, by simp [slotsOf]⟩
    · obtain ⟨h1, h2, xs, h3⟩ := ih (i + 1) p q
      have e : p.1 - i = (p.1 - (i + 1)) + 1 := by omega
      exact ⟨by omega, by rw [e]; simpa using h2, xs, by rw [e]; simpa [slotsOf] using h3⟩
/-- what the lent lists hold at the end -/
theorem ARel.outs {vs : List V} {args : List Arg} {bs : List Addr} (h : ARel C F H vs args bs) {F' H' : Hp} {σ : L2.St} {env : PEnv} (rel : Rel C.K C.fa F' H' env σ) :
    ∀ (i : Nat) (os : List (List D)), (∀ p ∈ (bIdx i args).zip bs, σ[p.1]? = some (some (.ref p.2)) ∧ ∃ xs, env[p.1]? = some (some (.bor xs))) → borsOf (env.drop i) args = some os → ORel C F' H' bs os := by
  induction h with
  | nil => intro i os _ e; cases hd : env.drop i <;> (rw [hd] at e; cases e; exact .nil)
  | @d v x vs as bs _ _ ih =>
    intro i os hb e
    cases hd : env.drop i with
    | nil => rw [hd] at e; cases e
    | cons s r =>
      rw [hd] at e
      have er : r = env.drop (i + 1) := by rw [← List.drop_drop, hd]; rfl
      have e : borsOf r as = some os := by cases s with | none => exact e | some t => cases t <;> exact e
      rw [er] at e
      exact ih (i + 1) os hb e
  | @fn f vs as bs _ ih =>
    intro i os hb e
    cases hd : env.drop i with
    | nil => rw [hd] at e; cases e
    | cons s r =>
      rw [hd] at e
      have er : r = env.drop (i + 1) := by rw [← List.drop_drop, hd]; rfl
      have e : borsOf r as = some os := by cases s with | none => exact e | some t => cases t <;> exact e
      rw [er] at e
      exact ih (i + 1) os hb e
  | @bor a ws ys vs as bs _ _ _ _ _ ih =>
    intro i os hb e
    obtain ⟨hσ, xs, hx⟩ := hb (i, a) (by show (i, a) ∈ (i, a) :: _; exact List.mem_cons_self)
    have hd : env.drop i = some (.bor xs) :: env.drop (i + 1) := by
      obtain ⟨hl, hv⟩ := List.getElem?_eq_some_iff.mp hx
      rw [List.drop_eq_getElem_cons hl, hv]
    rw [hd] at e
    have e : (match borsOf (env.drop (i + 1)) as with | some os => some (xs :: os) | none => none) = some os := e
    cases q : borsOf (env.drop (i + 1)) as with
    | none => rw [q] at e; cases e
    | some os' =>
      rw [q] at e
      cases e
      obtain ⟨v, hv, b, vs', rfl, g1, g2, g3⟩ := rel.at_ i _ hx
      have hσ : σ[i]? = some (some (V.ref a)) := hσ
      rw [hσ] at hv
      cases hv
      exact .cons g1 g2 g3 (ih (i + 1) os' (fun p hp => hb p (List.mem_cons_of_mem _ hp)) q)
theorem getApp {α : Type} {l : List (Option α)} {k i : Nat} {s : α} (e : (l ++ List.replicate k none)[i]? = some (some s)) : l[i]? = some (some s) := by
  by_cases h : i < l.length
  · rwa [List.getElem?_append_left h] at e
  · rw [List.getElem?_append_right (by omega), List.getElem?_replicate] at e
    split at e <;> cases e
/-- the state at the entry -/
theorem entry {N : List Str} {vs : List V} {args : List Arg} {bs : List Addr} (ex : Ex F H) (h : ARel C F H vs args bs) (hn : vs.length ≤ N.length) :
    Loc C ⟨(bIdx 0 args).zip bs, F, H⟩ (start N vs) (slotsOf args ++ List.replicate (N.length - args.length) none) F H := by
  have el := h.len
  have sl := slotsOf_len args
  have stv : ∀ {i : Nat} {v : V}, vs[i]? = some v → (start N vs)[i]? = some (some v) := by
    intro i v e
    obtain ⟨hl, _⟩ := List.getElem?_eq_some_iff.mp e
    unfold L2.start
    rw [List.getElem?_append_left (by simpa using hl), List.getElem?_map, e]
    rfl
  refine ⟨⟨ex, ?_, fun i s e => ?_, fun i j xs ys hne ⟨s, e, m⟩ ⟨t, e2, m2⟩ => ?_⟩, Adv.refl, fun a ⟨i, xs, ⟨s, e, m⟩, q⟩ => .inl ?_, fun p hp => ?_⟩
  · unfold L2.start
    rw [List.length_append, List.length_append, List.length_replicate, List.length_replicate, List.length_map, sl]
    omega
  · obtain ⟨v, hv, hs⟩ := h.slots i s (getApp e)
    exact ⟨v, stv hv, hs⟩
  · have a1 := h.apart i j s t xs ys hne (getApp e) m (getApp e2) m2
    obtain ⟨v, hv, _⟩ := h.slots i s (getApp e)
    obtain ⟨w, hw, _⟩ := h.slots j t (getApp e2)
    rw [stv hv, stv hw]
    intro q
    cases q
    exact a1 (by rw [hv, hw])
  · obtain ⟨b, h1, h2⟩ := h.lent i s xs (getApp e) m
    rw [stv h1] at q
    cases q
    show a ∈ ((bIdx 0 args).zip bs).map (·.2)
    rw [h.bmap 0]
    exact h2
  · obtain ⟨_, h2, xs, h3⟩ := h.bat 0 p hp
    refine ⟨stv (by simpa using h2), xs, ?_⟩
    have h3 : (slotsOf args)[p.1]? = some (some (.bor xs)) := by simpa using h3
    obtain ⟨hl, _⟩ := List.getElem?_eq_some_iff.mp h3
    show (slotsOf args ++ _)[p.1]? = _
    rw [List.getElem?_append_left hl]
    exact h3
end

section
variable {P : Program} {w : World} {K : Kf} {mg : Str → Option Value} {base : Heap} {qual name : Str} {params : Arguments} {body : List Stmt} {scope : Scope} {dvs : List V} {kws : List (Str × V)} {N ps : List Str} {fa ca : Str → Addr} {k : Nat} {f : Addr} {fd : FuncData}
/-- the run of a body that keeps every entry keeps the promise -/
theorem run_sp {C : Cfg} {m : PEnv → R Flow} {vs : List V} {H : Hp} {Q : VK} {E : XK} (hl : ∀ vs H Q E, spOf C (runF ps.length N.length m) vs H Q E → vs.length = ps.length) (hps : ps.length ≤ N.length) (h : spOf C (runF ps.length N.length m) vs H Q E) :
    ∃ T : Ent, tS C T (fun _ => E) m { nx := fun _ H' => Q .non H', rt := Q } (start N vs) H := by
  have hn : vs.length ≤ N.length := by rw [hl _ _ _ _ h]; exact hps
  have hlen := hl _ _ _ _ h
  obtain ⟨F, args, bs, ex, ar, post⟩ := h
  have loc := entry (N := N) ex ar hn
  refine ⟨_, _, F, loc, ?_⟩
  have outs : ∀ {σ' : L2.St} {env' : PEnv} {F' H' : Hp} {os : List (List D)}, Loc C ⟨(bIdx 0 args).zip bs, F, H⟩ σ' env' F' H' → borsOf env' args = some os → ORel C F' H' bs os ∧ Adv (· ∈ bs) F H F' H' ∧ Ex F' H' := by
    intro σ' env' F' H' os l e
    refine ⟨ar.outs l.rel 0 os l.bor e, ?_, l.rel.ex⟩
    have a := l.adv
    have eb : (fun a => a ∈ (((bIdx 0 args).zip bs).map (·.2))) = (fun a => a ∈ bs) := by rw [ar.bmap 0]
    exact ⟨a.fz, a.dom, fun x p q r => a.fresh x p q (by show ¬ (fun a => a ∈ (((bIdx 0 args).zip bs).map (·.2))) x; rw [eb]; exact r), fun x o p q => a.keep x o p (by show ¬ (fun a => a ∈ (((bIdx 0 args).zip bs).map (·.2))) x; rw [eb]; exact q)⟩
  unfold runF at post
  rw [if_pos (by rw [← ar.len]; exact hlen)] at post
  cases em : m (slotsOf args ++ List.replicate (N.length - args.length) none) with
  | stuck => rw [em] at post; exact post.elim
  | exc c x env' =>
    rw [em] at post
    dsimp only at post
    cases eb : borsOf env' args with
    | none => rw [eb] at post; exact post.elim
    | some os =>
      rw [eb] at post
      intro d σ' F' H' l _ xr
      obtain ⟨o1, o2, o3⟩ := outs l eb
      exact post d F' H' o2 o3 o1 xr
  | ok fl env' =>
    rw [em] at post
    cases fl with
    | brk => exact post.elim
    | cont => exact post.elim
    | nx =>
      dsimp only at post
      cases eb : borsOf env' args with
      | none => rw [eb] at post; exact post.elim
      | some os =>
        rw [eb] at post
        intro σ' F' H' l _
        obtain ⟨o1, o2, o3⟩ := outs l eb
        exact post .non F' H' o2 o3 o1 .non
    | ret r =>
      dsimp only at post
      cases eb : borsOf env' args with
      | none => rw [eb] at post; exact post.elim
      | some os =>
        rw [eb] at post
        intro v σ' F' H' l _ pv
        obtain ⟨o1, o2, o3⟩ := outs l eb
        exact post v F' H' o2 o3 o1 pv
/-- THE RULE: a def by the run of its body; hb: the body's rows, rule by rule -/
theorem def_ok {m : PEnv → R Flow} {fn : Fn} (FD : FunD K name qual params body scope dvs kws f fd) (S : FnScope N ps scope) (hfn : fn = runF ps.length N.length m)
    (hps : ps.length ≤ N.length)
    (hb : ∀ (cdv : Value) (A : Around) (outer : List Env) (s : Shared) (H : Hp) (E : XK) (T : Ent), Room k (A.deeper (envOfC qual scope s.heap.objs.size f cdv)) → (A.deeper (envOfC qual scope s.heap.objs.size f cdv)).guards = some [] →
      PSs (cxOf (L2.CX P w) P w K mg base N qual scope f cdv A outer s H E) body (tS ⟨K, ⟨fa, P, w⟩, ca⟩ T (fun _ => E) m)) :
    FnG P w K mg base (L2.CX P w) (k + 1) f fd ps (spOf ⟨K, ⟨fa, P, w⟩, ca⟩ fn) := by
  subst hfn
  have hl : ∀ (vs : List V) (H : Hp) (Q : VK) (E : XK), spOf ⟨K, ⟨fa, P, w⟩, ca⟩ (runF ps.length N.length m) vs H Q E → vs.length = ps.length := by
    intro vs H Q E ⟨F, args, bs, _, ar, post⟩
    rw [ar.len]
    by_cases z : args.length = ps.length
    · exact z
    · unfold runF at post; rw [if_neg z] at post; exact post.elim
  refine fnG_of FD S hl fun cdv A outer s H vs Q E room gd h => ?_
  obtain ⟨T, t⟩ := run_sp (N := N) (ps := ps) hl hps h
  exact ⟨_, hb cdv A outer s H E T room gd, t⟩
end
end Pi


set_option Elab.async false
set_option linter.all false
set_option maxRecDepth 100000
set_option autoImplicit false
/-! Pi8: targets, loops, comprehensions -/
namespace Pi
open PySem PySem.Spec PyProof.Rows L2

/-! ### targets -/
abbrev Tg := D → PEnv → Option PEnv
def nameG (i : Nat) : Tg := fun x env => match env[i]? with
  | none => none
  | some (some (.bor _)) => none
  | _ => some (env.set i (some (.val x)))
def goGs : List Tg → List D → PEnv → Option PEnv
  | [], [], env => some env
  | g :: gs, x :: xs, env => match g x env with
    | some e => goGs gs xs e
    | none => none
  | _, _, _ => none
def tupG (gs : List Tg) : Tg := fun x env => match x with
  | .tuple xs => goGs gs xs env
  | _ => none

/-- what a target changes: the slots js, to data -/
structure TSet (js : List Nat) (env : PEnv) (σ : L2.St) (env' : PEnv) (σ' : L2.St) : Prop where
  len : env'.length = env.length ∧ σ'.length = σ.length
  at_ : ∀ j : Nat, (env'[j]? = env[j]? ∧ σ'[j]? = σ[j]?) ∨ (j ∈ js ∧ (∃ y, env'[j]? = some (some (.val y))) ∧ ∀ xs, env[j]? ≠ some (some (.bor xs)))
theorem TSet.refl {js : List Nat} {env : PEnv} {σ : L2.St} : TSet js env σ env σ := ⟨⟨rfl, rfl⟩, fun _ => .inl ⟨rfl, rfl⟩⟩
theorem TSet.trans {js ks : List Nat} {env env1 env2 : PEnv} {σ σ1 σ2 : L2.St} (a : TSet js env σ env1 σ1) (b : TSet ks env1 σ1 env2 σ2) : TSet (js ++ ks) env σ env2 σ2 := by
  refine ⟨⟨b.len.1.trans a.len.1, b.len.2.trans a.len.2⟩, fun j => ?_⟩
  rcases b.at_ j with ⟨h1, h2⟩ | ⟨h1, h2, h3⟩
  · rcases a.at_ j with ⟨g1, g2⟩ | ⟨g1, g2, g3⟩
    · exact .inl ⟨h1.trans g1, h2.trans g2⟩
    · exact .inr ⟨List.mem_append_left _ g1, by rw [h1]; exact g2, g3⟩
  · refine .inr ⟨List.mem_append_right _ h1, h2, ?_⟩
    rcases a.at_ j with ⟨g1, g2⟩ | ⟨g1, g2, g3⟩
    · rw [← g1]; exact h3
    · exact g3
section
variable (C : Cfg)
def tG (js : List Nat) (g : Tg) : TG := fun v σ H Q => ∃ env F x, Rel C.K C.fa F H env σ ∧ Rp C.K F v x ∧ match g x env with
  | none => False
  | some env' => ∀ σ', Rel C.K C.fa F H env' σ' → TSet js env σ env' σ' → Q σ' H
def tGs (js : List Nat) (gs : List Tg) : TGs := fun vs σ H Q => ∃ env F xs, Rel C.K C.fa F H env σ ∧ RpA C.K F vs xs ∧ match goGs gs xs env with
  | none => False
  | some env' => ∀ σ', Rel C.K C.fa F H env' σ' → TSet js env σ env' σ' → Q σ' H
end
section
variable {C : Cfg} {F H : Hp} {env env' : PEnv} {σ σ' : L2.St} {js : List Nat}
theorem Rel.setVal {v : V} {x : D} (r : Rel C.K C.fa F H env σ) {i : Nat} (hi : i < env.length) (h : Rp C.K F v x) : Rel C.K C.fa F H (env.set i (some (.val x))) (σ.set i (some v)) := by
  have hiσ : i < σ.length := by rw [← r.len]; exact hi
  have mu : ∀ {j : Nat} {xs : Mc}, Mu (env.set i (some (.val x))) j xs → j ≠ i ∧ Mu env j xs := by
    intro j xs ⟨t, e, hm⟩
    rcases getSet e with ⟨z, e2⟩ | ⟨z, e2⟩
    · cases e2; cases hm
    · exact ⟨z, t, e2, hm⟩
  refine ⟨r.ex, by rw [List.length_set, List.length_set]; exact r.len, fun j t e => ?_, fun j k xs ys hne m1 m2 => ?_⟩
  · rcases getSet e with ⟨z, e2⟩ | ⟨z, e2⟩
    · cases e2
      subst z
      exact ⟨v, List.getElem?_set_self hiσ, h⟩
    · obtain ⟨w, hw, h2⟩ := r.at_ j t e2
      exact ⟨w, by rw [List.getElem?_set_ne (fun e => z e.symm)]; exact hw, h2⟩
  · obtain ⟨z1, e1⟩ := mu m1
    obtain ⟨z2, e2⟩ := mu m2
    rw [List.getElem?_set_ne (fun e => z1 e.symm), List.getElem?_set_ne (fun e => z2 e.symm)]
    exact r.dis j k xs ys hne e1 e2
theorem TSet.mu (t : TSet js env σ env' σ') {i : Nat} {xs : Mc} (m : Mu env' i xs) : Mu env i xs ∧ σ'[i]? = σ[i]? := by
  obtain ⟨s, e, hm⟩ := m
  rcases t.at_ i with ⟨h1, h2⟩ | ⟨_, ⟨y, h2⟩, _⟩
  · exact ⟨⟨s, by rw [← h1]; exact e, hm⟩, h2⟩
  · rw [e] at h2; cases h2; cases hm
theorem TSet.ma (t : TSet js env σ env' σ') {a : Addr} (m : MA env' σ' a) : MA env σ a := by
  obtain ⟨i, xs, mu, e⟩ := m
  obtain ⟨mu', e'⟩ := t.mu mu
  exact ⟨i, xs, mu', by rw [← e']; exact e⟩
theorem TSet.bor (t : TSet js env σ env' σ') {i : Nat} {xs : List D} (e : env[i]? = some (some (.bor xs))) : env'[i]? = some (some (.bor xs)) ∧ σ'[i]? = σ[i]? := by
  rcases t.at_ i with ⟨h1, h2⟩ | ⟨_, _, h3⟩
  · exact ⟨by rw [h1]; exact e, h2⟩
  · exact absurd e (h3 xs)
theorem Loc.tset {T : Ent} (l : Loc C T σ env F H) (r : Rel C.K C.fa F H env' σ') (t : TSet js env σ env' σ') : Loc C T σ' env' F H :=
  ⟨r, l.adv, fun a m => l.own a (t.ma m), fun p hp => let ⟨h1, xs, h2⟩ := l.bor p hp; let ⟨g1, g2⟩ := t.bor h2; ⟨by rw [g2]; exact h1, xs, g1⟩⟩
theorem g_name {X : Cx} {fa ca : Str → Addr} {i : Nat} {x : Str} {pos : Pos} (hN : X.N.Nodup) (hi : X.N[i]? = some x) (hx : L2.Loc X.env.scope x) (hf : X.fn x = true ∨ X.env.scope.names.lookup x = some .local := by first | exact .inl rfl | exact .inr rfl | assumption) :
    PG X (.Name x pos) (tG (Cf X fa ca) [i] (nameG i)) := by
  have h := pg_name (pos := pos) hN hi hx hf
  refine ⟨fun pins s σ H v u Q I r hw => h.run pins s σ H v u Q I r ?_⟩
  obtain ⟨env, F, y, rel, rp, hq⟩ := hw
  unfold nameG at hq
  cases e : env[i]? with
  | none => rw [e] at hq; exact hq.elim
  | some o =>
    have hl : i < env.length := (List.getElem?_eq_some_iff.mp e).1
    have nb : ∀ xs, env[i]? ≠ some (some (.bor xs)) := by
      intro xs q
      rw [q] at hq
      exact hq.elim
    have hq : ∀ σ', Rel X.K (Cf X fa ca).fa F H (env.set i (some (.val y))) σ' → TSet [i] env σ (env.set i (some (.val y))) σ' → Q σ' H := by
      rw [e] at hq
      cases o with
      | none => exact hq
      | some s =>
        cases s with
        | bor xs => exact absurd e (nb xs)
        | val x => exact hq
        | fn f => exact hq
        | set ks => exact hq
        | lst xs => exact hq
    refine hq (σ.set i (some v)) (Rel.setVal (C := Cf X fa ca) rel hl rp) ⟨⟨List.length_set, List.length_set⟩, fun j => ?_⟩
    by_cases z : j = i
    · subst z
      exact .inr ⟨List.mem_singleton.mpr rfl, ⟨y, List.getElem?_set_self hl⟩, nb⟩
    · exact .inl ⟨List.getElem?_set_ne (fun e => z e.symm), List.getElem?_set_ne (fun e => z e.symm)⟩
theorem gs_nil {X : Cx} {fa ca : Str → Addr} : PGs X [] (tGs (Cf X fa ca) [] []) := by
  have h := pgs_nil (X := X)
  refine ⟨fun pins s σ H vs us Q I r hw => h.run pins s σ H vs us Q I r ?_⟩
  obtain ⟨env, F, xs, rel, ra, hq⟩ := hw
  cases xs with
  | nil => cases ra; exact ⟨rfl, hq σ rel TSet.refl⟩
  | cons x xs => exact hq.elim
theorem gs_cons {X : Cx} {fa ca : Str → Addr} {e : Expr} {es : List Expr} {js ks : List Nat} {g : Tg} {gs : List Tg} (h1 : PG X e (tG (Cf X fa ca) js g)) (h2 : PGs X es (tGs (Cf X fa ca) ks gs))
    (hst : (assignEach (e :: es) X.env).map (·.2) = assign e X.env :: (assignEach es X.env).map (·.2) := by rfl) : PGs X (e :: es) (tGs (Cf X fa ca) (js ++ ks) (g :: gs)) := by
  have h := pgs_cons h1 h2 hst
  refine ⟨fun pins s σ H vs us Q I r hw => h.run pins s σ H vs us Q I r ?_⟩
  obtain ⟨env, F, xs, rel, ra, hq⟩ := hw
  cases xs with
  | nil => exact hq.elim
  | cons x xs =>
    cases ra with
    | cons r1 r2 =>
      refine ⟨_, _, rfl, env, F, x, rel, r1, ?_⟩
      have hq : (match (match g x env with | some e => goGs gs xs e | none => none) with
        | none => False
        | some env' => ∀ σ', Rel X.K (Cf X fa ca).fa F H env' σ' → TSet (js ++ ks) env σ env' σ' → Q σ' H) := hq
      cases eg : g x env with
      | none => rw [eg] at hq; exact hq.elim
      | some env1 =>
        rw [eg] at hq
        intro σ1 rel1 t1
        refine ⟨env1, F, xs, rel1, r2, ?_⟩
        dsimp only at hq
        cases eg2 : goGs gs xs env1 with
        | none => rw [eg2] at hq; exact hq.elim
        | some env2 =>
          rw [eg2] at hq
          exact fun σ2 rel2 t2 => hq σ2 rel2 (t1.trans t2)
theorem g_tup {X : Cx} {fa ca : Str → Addr} {es : List Expr} {k : Nat} {pos : Pos} {js : List Nat} {gs : List Tg} (hc : X.calm = true) (h : PGs X es (tGs (Cf X fa ca) js gs))
    (hn : (assignEach es X.env).length = gs.length := by rfl) (hst : (assignEach es X.env).findIdx? (·.1) = none := by rfl) : PG X (.Tuple es k pos) (tG (Cf X fa ca) js (tupG gs)) := by
  have h := pg_tup (pos := pos) (k := k) hc h hn hst
  refine ⟨fun pins s σ H v u Q I r hw => h.run pins s σ H v u Q I r ?_⟩
  obtain ⟨env, F, x, rel, rp, hq⟩ := hw
  cases x with
  | tuple xs =>
    cases rp with
    | @tup a vs _ h1 h2 =>
      have hlen : ∀ (gs : List Tg) (xs : List D) (env env' : PEnv), goGs gs xs env = some env' → xs.length = gs.length := by
        intro gs
        induction gs with
        | nil => intro xs env env' e; cases xs with | nil => rfl | cons x xs => cases e
        | cons g gs ih =>
          intro xs env env' e
          cases xs with
          | nil => cases e
          | cons x xs =>
            have e : (match g x env with | some e => goGs gs xs e | none => none) = some env' := e
            cases q : g x env with
            | none => rw [q] at e; cases e
            | some e1 => rw [q] at e; simp [ih xs e1 env' e]
      refine ⟨a, vs, rfl, Evl.ex_t rel.ex h1, ?_, env, F, xs, rel, h2, hq⟩
      have hq : (match goGs gs xs env with | none => False | some env' => ∀ σ', Rel X.K (Cf X fa ca).fa F H env' σ' → TSet js env σ env' σ' → Q σ' H) := hq
      cases q : goGs gs xs env with
      | none => rw [q] at hq; exact hq.elim
      | some e1 => rw [h2.len, hlen gs xs env e1 q]
  | _ => exact hq.elim
end

/-! ### what is walked -/
structure SrcOk (C : Cfg) (J : It) (F : Hp) (items : List D) : Prop where
  stop : ∀ F1 H1, Ex F F1 → Ex F1 H1 → J.stop items.length H1
  go : ∀ i F1 H1, i < items.length → Ex F F1 → Ex F1 H1 → J.go i H1
  yld : ∀ i F1 H1 x H2, i < items.length → Ex F F1 → Ex F1 H1 → J.yld i H1 x H2 → ∃ d, items[i]? = some d ∧ ((H2 = H1 ∧ Rp C.K F1 x d) ∨ ∃ p o, H1 p = none ∧ H2 = upd H1 p o ∧ Rp C.K (upd F1 p o) x d)
def PostI (C : Cfg) (E0 : L2.St → XK) (σ : L2.St) (env : PEnv) (F H : Hp) (m : R (List D)) (Rr : It → Hp → Prop) : Prop := match m with
  | .stuck => False
  | .ok items env' => ∀ J F' H', Nx C.K C.fa σ env F H env' F' H' → SrcOk C J F' items → Rr J H'
  | .exc c x env' => ∀ d F' H', Nx C.K C.fa σ env F H env' F' H' → XR C.K F' H' d x → E0 σ (.ref (C.ca c)) d H'
def tI (C : Cfg) (E0 : L2.St → XK) (m : PEnv → R (List D)) : TI := fun σ H Rr => ∃ env F, Rel C.K C.fa F H env σ ∧ PostI C E0 σ env F H (m env) Rr
def seqI (m : PEnv → R Val) : PEnv → R (List D) := fun env => (m env).bindF fun r env => match r with
  | .d (.list xs) => .ok xs env
  | .d (.tuple xs) => .ok xs env
  | _ => .stuck
def intsD (lo : Int) (n : Nat) : List D := (List.range n).map fun (i : Nat) => .int (lo + i)
def range1I (m : PEnv → R Val) : PEnv → R (List D) := fun env => (m env).bindF fun r env => match r with
  | .d (.int j) => if -(2 ^ 62) ≤ j ∧ j < 2 ^ 62 then .ok (intsD 0 j.toNat) env else .stuck
  | _ => .stuck
def enumD : Nat → List D → List D
  | _, [] => []
  | i, x :: xs => .tuple [.int (i : Nat), x] :: enumD (i + 1) xs
def enumI (m : PEnv → R Val) : PEnv → R (List D) := fun env => (m env).bindF fun r env => match r with
  | .d (.list xs) => .ok (enumD 0 xs) env
  | _ => .stuck
def zipD : List D → List D → List D
  | x :: xs, y :: ys => .tuple [x, y] :: zipD xs ys
  | _, _ => []
def zipI (m m2 : PEnv → R Val) : PEnv → R (List D) := fun env => (m env).bindF fun r env => (m2 env).bindF fun r2 env => match r, r2 with
  | .d (.list xs), .d (.list ys) => .ok (zipD xs ys) env
  | .d (.tuple xs), .d (.tuple ys) => .ok (zipD xs ys) env
  | _, _ => .stuck
section
variable {X : Cx} {fa ca : Str → Addr} {E0 : L2.St → XK} {tg : Expr}
theorem PI.weak {e : Expr} {t t' : TI} (h : PI X tg e t) (w : ∀ σ H Rr, t' σ H Rr → t σ H Rr) : PI X tg e t' := ⟨fun pins s σ H Rr I q => h.run pins s σ H Rr I (w σ H Rr q)⟩
theorem PI.or {e : Expr} {t u : TI} (h : PI X tg e t) (h2 : PI X tg e u) : PI X tg e (fun σ H Rr => t σ H Rr ∨ u σ H Rr) := ⟨fun pins s σ H Rr I q => q.elim (fun q => h.run pins s σ H Rr I q) fun q => h2.run pins s σ H Rr I q⟩
theorem src_list {C : Cfg} {F : Hp} {a : Addr} {vs : List V} {xs : List D} (h1 : SqL C.K F a vs) (h2 : RpA C.K F vs xs) : SrcOk C (Itl C.K a) F xs where
  stop := fun F1 H1 e1 e2 => ⟨vs, Evl.ex_l e2 (Evl.ex_l e1 h1), by rw [h2.len]; exact Nat.le_refl _⟩
  go := fun i F1 H1 hi e1 e2 => by
    have hi' : i < vs.length := by rw [h2.len]; exact hi
    exact ⟨vs, vs[i], Evl.ex_l e2 (Evl.ex_l e1 h1), by simp [hi']⟩
  yld := fun i F1 H1 x H2 hi e1 e2 ⟨q, h⟩ => by
    have hx := h vs (Evl.ex_l e2 (Evl.ex_l e1 h1))
    obtain ⟨d, hd, rp⟩ := h2.get hx
    exact ⟨d, hd, .inl ⟨q, rp.up e1⟩⟩
theorem src_tup {C : Cfg} {F : Hp} {a : Addr} {vs : List V} {xs : List D} (h1 : SqT C.K F a vs) (h2 : RpA C.K F vs xs) : SrcOk C (Itt C.K a) F xs where
  stop := fun F1 H1 e1 e2 => ⟨vs, Evl.ex_t e2 (Evl.ex_t e1 h1), by rw [h2.len]; exact Nat.le_refl _⟩
  go := fun i F1 H1 hi e1 e2 => by
    have hi' : i < vs.length := by rw [h2.len]; exact hi
    exact ⟨vs, vs[i], Evl.ex_t e2 (Evl.ex_t e1 h1), by simp [hi']⟩
  yld := fun i F1 H1 x H2 hi e1 e2 ⟨q, h⟩ => by
    have hx := h vs (Evl.ex_t e2 (Evl.ex_t e1 h1))
    obtain ⟨d, hd, rp⟩ := h2.get hx
    exact ⟨d, hd, .inl ⟨q, rp.up e1⟩⟩
theorem src_rng {C : Cfg} {F : Hp} {lo : Int} {n : Nat} : SrcOk C (Itr lo n) F (intsD lo n) where
  stop := fun F1 H1 e1 e2 => by simp [intsD, Itr]
  go := fun i F1 H1 hi e1 e2 => by
    have hi : i < n := by simpa [intsD] using hi
    exact hi
  yld := fun i F1 H1 x H2 hi e1 e2 ⟨q, h⟩ => by
    have hi : i < n := by simpa [intsD] using hi
    subst h
    exact ⟨.int (lo + i), by simp [intsD, hi], .inl ⟨q, .int _⟩⟩
theorem enumD_get : ∀ (xs : List D) (k i : Nat) (d : D), xs[i]? = some d → (enumD k xs)[i]? = some (.tuple [.int ((k + i : Nat) : Int), d])
  | [], _, _, _, h => by simp at h
  | x :: xs, k, 0, d, h => by simp at h; subst h; rfl
  | x :: xs, k, i + 1, d, h => by
    have := enumD_get xs (k + 1) i d (by simpa using h)
    have e : k + 1 + i = k + (i + 1) := by omega
    rw [e] at this
    simpa [enumD] using this
theorem enumD_len : ∀ (xs : List D) (k : Nat), (enumD k xs).length = xs.length
  | [], _ => rfl
  | x :: xs, k => by simp [enumD, enumD_len xs (k + 1)]
theorem zipD_get : ∀ (xs ys : List D) (i : Nat) (d e : D), xs[i]? = some d → ys[i]? = some e → (zipD xs ys)[i]? = some (.tuple [d, e])
  | [], _, _, _, _, h, _ => by simp at h
  | _ :: _, [], _, _, _, _, h => by simp at h
  | x :: xs, y :: ys, 0, d, e, h, h2 => by simp at h h2; subst h; subst h2; rfl
  | x :: xs, y :: ys, i + 1, d, e, h, h2 => by simpa [zipD] using zipD_get xs ys i d e (by simpa using h) (by simpa using h2)
theorem zipD_len : ∀ (xs ys : List D), (zipD xs ys).length = min xs.length ys.length
  | [], ys => by simp [zipD]
  | x :: xs, [] => by simp [zipD]
  | x :: xs, y :: ys => by simp only [zipD, List.length_cons, zipD_len xs ys]; omega
theorem src_enum {C : Cfg} {F : Hp} {a : Addr} {vs : List V} {xs : List D} (h1 : SqL C.K F a vs) (h2 : RpA C.K F vs xs) : SrcOk C (Ite C.K a) F (enumD 0 xs) where
  stop := fun F1 H1 e1 e2 => ⟨vs, Evl.ex_l e2 (Evl.ex_l e1 h1), by rw [h2.len, enumD_len]; exact Nat.le_refl _⟩
  go := fun i F1 H1 hi e1 e2 => by
    have hi' : i < vs.length := by rw [h2.len]; rw [enumD_len] at hi; exact hi
    exact ⟨vs, vs[i], Evl.ex_l e2 (Evl.ex_l e1 h1), by simp [hi']⟩
  yld := fun i F1 H1 v H2 hi e1 e2 ⟨p, x, hv, hp, q, h⟩ => by
    have hx := h vs (Evl.ex_l e2 (Evl.ex_l e1 h1))
    obtain ⟨d, hd, rp⟩ := h2.get hx
    have fp : F1 p = none := by
      cases z : F1 p with
      | none => rfl
      | some u => rw [e2 p u z] at hp; cases hp
    subst hv
    refine ⟨_, by simpa using enumD_get xs 0 i d hd, .inr ⟨p, _, hp, q, .tup (Evl.st_of upd_same) (.cons (.int _) (.cons (rp.up (e1.trans (Evl.Ex.new fp))) .nil))⟩⟩
theorem src_zip {C : Cfg} {F : Hp} {a b : Addr} {vs ws : List V} {xs ys : List D} (h1 : SqL C.K F a vs) (h2 : RpA C.K F vs xs) (g1 : SqL C.K F b ws) (g2 : RpA C.K F ws ys) : SrcOk C (Itz C.K a b) F (zipD xs ys) where
  stop := fun F1 H1 e1 e2 => ⟨vs, ws, Evl.ex_l e2 (Evl.ex_l e1 h1), Evl.ex_l e2 (Evl.ex_l e1 g1), by rw [h2.len, g2.len, zipD_len]; omega⟩
  go := fun i F1 H1 hi e1 e2 => by
    rw [zipD_len] at hi
    have hi' : i < vs.length := by rw [h2.len]; omega
    have hj' : i < ws.length := by rw [g2.len]; omega
    exact ⟨vs, ws, vs[i], ws[i], Evl.ex_l e2 (Evl.ex_l e1 h1), Evl.ex_l e2 (Evl.ex_l e1 g1), by simp [hi'], by simp [hj']⟩
  yld := fun i F1 H1 v H2 hi e1 e2 ⟨p, x, y, hv, hp, q, h, h'⟩ => by
    obtain ⟨d, hd, rp⟩ := h2.get (h vs (Evl.ex_l e2 (Evl.ex_l e1 h1)))
    obtain ⟨d', hd', rp'⟩ := g2.get (h' ws (Evl.ex_l e2 (Evl.ex_l e1 g1)))
    have fp : F1 p = none := by
      cases z : F1 p with
      | none => rfl
      | some u => rw [e2 p u z] at hp; cases hp
    subst hv
    have up := e1.trans (Evl.Ex.new (o := .tup [x, y]) fp)
    exact ⟨_, zipD_get xs ys i d d' hd hd', .inr ⟨p, _, hp, q, .tup (Evl.st_of upd_same) (.cons (rp.up up) (.cons (rp'.up up) .nil))⟩⟩
theorem src_zipT {C : Cfg} {F : Hp} {a b : Addr} {vs ws : List V} {xs ys : List D} (h1 : SqT C.K F a vs) (h2 : RpA C.K F vs xs) (g1 : SqT C.K F b ws) (g2 : RpA C.K F ws ys) : SrcOk C (RZ.ItzT C.K a b) F (zipD xs ys) where
  stop := fun F1 H1 e1 e2 => ⟨vs, ws, Evl.ex_t e2 (Evl.ex_t e1 h1), Evl.ex_t e2 (Evl.ex_t e1 g1), by rw [h2.len, g2.len, zipD_len]; omega⟩
  go := fun i F1 H1 hi e1 e2 => by
    rw [zipD_len] at hi
    have hi' : i < vs.length := by rw [h2.len]; omega
    have hj' : i < ws.length := by rw [g2.len]; omega
    exact ⟨vs, ws, vs[i], ws[i], Evl.ex_t e2 (Evl.ex_t e1 h1), Evl.ex_t e2 (Evl.ex_t e1 g1), by simp [hi'], by simp [hj']⟩
  yld := fun i F1 H1 v H2 hi e1 e2 ⟨p, x, y, hv, hp, q, h, h'⟩ => by
    obtain ⟨d, hd, rp⟩ := h2.get (h vs (Evl.ex_t e2 (Evl.ex_t e1 h1)))
    obtain ⟨d', hd', rp'⟩ := g2.get (h' ws (Evl.ex_t e2 (Evl.ex_t e1 g1)))
    have fp : F1 p = none := by
      cases z : F1 p with
      | none => rfl
      | some u => rw [e2 p u z] at hp; cases hp
    subst hv
    have up := e1.trans (Evl.Ex.new (o := .tup [x, y]) fp)
    exact ⟨_, zipD_get xs ys i d d' hd hd', .inr ⟨p, _, hp, q, .tup (Evl.st_of upd_same) (.cons (rp.up up) (.cons (rp'.up up) .nil))⟩⟩
theorem PostI.later {C : Cfg} {σ : L2.St} {env env1 : PEnv} {F H F1 H1 : Hp} {m : R (List D)} {Rr : It → Hp → Prop} (n : Nx C.K C.fa σ env F H env1 F1 H1) (h : PostI C E0 σ env F H m Rr) : PostI C E0 σ env1 F1 H1 m Rr := by
  cases m with
  | stuck => exact h
  | ok r env2 => exact fun J F' H' k p => h J F' H' (n.trans k) p
  | exc c x env2 => exact fun d F' H' k p => h d F' H' (n.trans k) p
theorem seqEI {C : Cfg} {σ : L2.St} {env : PEnv} {F H : Hp} {m : R Val} {f : Val → PEnv → R (List D)} {Rr : It → Hp → Prop} {Q' : VK} (rel : Rel C.K C.fa F H env σ) (h : PostI C E0 σ env F H (m.bindF f) Rr)
    (k : ∀ r env1 v F1 H1, (∃ r0, m = .ok r0 env1 ∧ r0.frz = r) → Nx C.K C.fa σ env F H env1 F1 H1 → VRel C.K C.fa σ F1 v r → PostI C E0 σ env1 F1 H1 (f r env1) Rr → Q' v H1) : Post C E0 σ env F H m Q' := by
  cases m with
  | stuck => exact h
  | exc c x env2 => exact h
  | ok r env1 =>
    intro v F1 H1 n p
    obtain ⟨F2, n2, vr⟩ := n.frz p rel.nm
    exact k r.frz env1 v F2 H1 ⟨r, rfl, rfl⟩ n2 vr (PostI.later n2 h)
theorem i_seq {e : Expr} {m : PEnv → R Val} (h : PE X e (tR (Cf X fa ca) E0 m)) : PI X tg e (tI (Cf X fa ca) E0 (seqI m)) := by
  refine PI.weak (PI.or (pi_list h) (pi_tup h)) fun σ H Rr ⟨env, F, rel, h⟩ => ?_
  have hT : (∀ xs env1, (m env) = .ok (.d (.tuple xs)) env1 → iTup X.K (tR (Cf X fa ca) E0 m) σ H Rr) := by
    intro xs env1 em
    refine ⟨env, F, rel, seqEI rel h fun r env1' v F1 H1 he n vr h1 => ?_⟩
    obtain ⟨r0, e0, e1⟩ := he
    rw [em] at e0
    cases e0
    subst e1
    cases (show Rp X.K F1 v (.tuple xs) from vr) with
    | @tup a vs _ g1 g2 => exact ⟨a, rfl, ⟨vs, Evl.ex_t n.rel.ex g1⟩, h1 _ F1 H1 (Nx.refl n.rel) (src_tup g1 g2)⟩
  have hL : (∀ xs env1, (m env) ≠ .ok (.d (.tuple xs)) env1) → iList X.K (tR (Cf X fa ca) E0 m) σ H Rr := by
    intro nt
    refine ⟨env, F, rel, seqEI rel h fun r env1 v F1 H1 he n vr h1 => ?_⟩
    obtain ⟨r0, e0, e1⟩ := he
    cases r with
    | d x =>
      cases x with
      | list xs =>
        cases (show Rp X.K F1 v (.list xs) from vr) with
        | @lst a vs _ g1 g2 => exact ⟨a, rfl, ⟨vs, Evl.ex_l n.rel.ex g1⟩, h1 _ F1 H1 (Nx.refl n.rel) (src_list g1 g2)⟩
      | tuple xs =>
        cases r0 with
        | d y => cases e1; exact absurd e0 (nt xs env1)
        | new ys => cases e1
        | own i => cases e1
        | fn f => cases e1
      | _ => exact h1.elim
    | _ => exact h1.elim
  cases em : m env with
  | stuck => exact .inl (hL fun xs env1 q => by rw [em] at q; cases q)
  | exc c x e1 => exact .inl (hL fun xs env1 q => by rw [em] at q; cases q)
  | ok r e1 =>
    cases r with
    | d x =>
      cases x with
      | tuple xs => exact .inr (hT xs e1 em)
      | _ => exact .inl (hL fun xs env1 q => by rw [em] at q; cases q)
    | _ => exact .inl (hL fun xs env1 q => by rw [em] at q; cases q)
end
end Pi


set_option Elab.async false
set_option linter.all false
set_option maxRecDepth 100000
set_option autoImplicit false
/-! Pi9: more sources, for, while -/
namespace Pi
open PySem PySem.Spec PyProof.Rows L2

section
variable {X : Cx} {fa ca : Str → Addr} {E0 : L2.St → XK} {tg : Expr}
theorem seqAI {C : Cfg} {σ : L2.St} {env : PEnv} {F H : Hp} {m : R Val} {f : Val → PEnv → R (List D)} {Rr : It → Hp → Prop} {Q' : VK} (rel : Rel C.K C.fa F H env σ) (h : PostI C E0 σ env F H (m.bindF f) Rr)
    (k : ∀ r env1 v F1 H1, Nx C.K C.fa σ env F H env1 F1 H1 → VRel C.K C.fa σ F1 v r → PostI C E0 σ env1 F1 H1 (f r env1) Rr → Q' v H1) : Post C E0 σ env F H m Q' :=
  seqEI rel h fun r env1 v F1 H1 _ n vr h1 => k r env1 v F1 H1 n vr h1
theorem i_range1 {a : Expr} {m : PEnv → R Val} {p pos : Pos} (hg : Gl X "range") (hm : X.mg "range" = none) (ha : PE X a (tR (Cf X fa ca) E0 m)) (hs : starEach [a] X.env = [(false, eval a X.env)] := by rfl)
    (hs0 : starEach [a] X.env = (false, eval a X.env) :: starEach [] X.env := by rfl) : PI X tg (.Call (.Name "range" p) [a] [] pos) (tI (Cf X fa ca) E0 (range1I m)) := by
  refine PI.weak (pi_range1 hg hm (pa_cons ha pa_nil hs0) hs) fun σ H Rr ⟨env, F, rel, h⟩ => ?_
  refine ⟨env, F, rel, seqAI rel h fun r env1 v F1 H1 n vr h1 => ?_⟩
  cases r with
  | d x =>
    cases x with
    | int j =>
      cases (show Rp X.K F1 v (.int j) from vr)
      have h1 : PostI (Cf X fa ca) E0 σ env1 F1 H1 (if -(2 ^ 62) ≤ j ∧ j < 2 ^ 62 then .ok (intsD 0 j.toNat) env1 else .stuck) Rr := h1
      by_cases z : -(2 ^ 62) ≤ j ∧ j < 2 ^ 62
      · rw [if_pos z] at h1
        exact ⟨j, rfl, z.1, z.2, h1 _ F1 H1 (Nx.refl n.rel) src_rng⟩
      · rw [if_neg z] at h1; exact h1.elim
    | _ => exact h1.elim
  | _ => exact h1.elim
theorem i_enum {e : Expr} {m : PEnv → R Val} {p pos tpos : Pos} {elts : List Expr} {kk : Nat} (hg : Gl X "enumerate") (hm : X.mg "enumerate" = none) (ha : PE X e (tR (Cf X fa ca) E0 m)) (hs : starEach [e] X.env = [(false, eval e X.env)] := by rfl)
    (hs0 : starEach [e] X.env = (false, eval e X.env) :: starEach [] X.env := by rfl) : PI X (.Tuple elts kk tpos) (.Call (.Name "enumerate" p) [e] [] pos) (tI (Cf X fa ca) E0 (enumI m)) := by
  refine PI.weak (pi_enum hg hm (pa_cons ha pa_nil hs0) hs) fun σ H Rr ⟨env, F, rel, h⟩ => ?_
  refine ⟨env, F, rel, seqAI rel h fun r env1 v F1 H1 n vr h1 => ?_⟩
  cases r with
  | d x =>
    cases x with
    | list xs =>
      cases (show Rp X.K F1 v (.list xs) from vr) with
      | @lst a vs _ g1 g2 => exact ⟨a, vs, rfl, Evl.ex_l n.rel.ex g1, h1 _ F1 H1 (Nx.refl n.rel) (src_enum g1 g2)⟩
    | _ => exact h1.elim
  | _ => exact h1.elim
theorem i_zip {e e2 : Expr} {m m2 : PEnv → R Val} {p pos tpos : Pos} {elts : List Expr} {kk : Nat} (hg : Gl X "zip") (hm : X.mg "zip" = none) (ha : PE X e (tR (Cf X fa ca) E0 m)) (hb : PE X e2 (tR (Cf X fa ca) E0 m2))
    (hs : starEach [e, e2] X.env = (false, eval e X.env) :: starEach [e2] X.env := by rfl) (hs2 : starEach [e2] X.env = (false, eval e2 X.env) :: starEach [] X.env := by rfl) (hpl : (backTo pos (starEach [e2] X.env)).any (·.1) = false := by rfl) :
    PI X (.Tuple elts kk tpos) (.Call (.Name "zip" p) [e, e2] [] pos) (tI (Cf X fa ca) E0 (zipI m m2)) := by
  refine PI.weak (RZ.pi_zipA hg hm (pa_cons ha (pa_cons hb pa_nil hs2) hs) hs hpl) fun σ H Rr ⟨env, F, rel, h⟩ => ?_
  refine ⟨env, F, rel, seqAI rel h fun r env1 v F1 H1 n vr h1 => ⟨env1, F1, n.rel, seqAI n.rel h1 fun r2 env2 w F2 H2 n2 wr h2 => ?_⟩⟩
  cases r with
  | d x =>
    cases r2 with
    | d y =>
      cases x with
      | list xs =>
        cases y with
        | list ys =>
          cases Rp.up (show Rp X.K F1 v (.list xs) from vr) n2.adv.fz with
          | @lst a vs _ g1 g2 =>
            cases (show Rp X.K F2 w (.list ys) from wr) with
            | @lst b ws _ k1 k2 => exact ⟨a, b, vs, ws, rfl, .inl ⟨Evl.ex_l n2.rel.ex g1, Evl.ex_l n2.rel.ex k1, h2 _ F2 H2 (Nx.refl n2.rel) (src_zip g1 g2 k1 k2)⟩⟩
        | _ => exact h2.elim
      | tuple xs =>
        cases y with
        | tuple ys =>
          cases Rp.up (show Rp X.K F1 v (.tuple xs) from vr) n2.adv.fz with
          | @tup a vs _ g1 g2 =>
            cases (show Rp X.K F2 w (.tuple ys) from wr) with
            | @tup b ws _ k1 k2 => exact ⟨a, b, vs, ws, rfl, .inr ⟨Evl.ex_t n2.rel.ex g1, Evl.ex_t n2.rel.ex k1, h2 _ F2 H2 (Nx.refl n2.rel) (src_zipT g1 g2 k1 k2)⟩⟩
        | _ => exact h2.elim
      | _ => cases y <;> exact h2.elim
    | _ => cases x <;> exact h2.elim
  | _ => exact h2.elim
end

/-! ### for -/
def forGo (b : D → PEnv → R Flow) : List D → PEnv → R Flow
  | [], env => .ok .nx env
  | x :: xs, env => match b x env with
    | .ok .nx e => forGo b xs e
    | .ok .cont e => forGo b xs e
    | .ok .brk e => .ok .nx e
    | r => r
def turnS (g : Tg) (mb : PEnv → R Flow) : D → PEnv → R Flow := fun x env => match g x env with
  | some e => mb e
  | none => .stuck
def forS (m : PEnv → R (List D)) (g : Tg) (mb : PEnv → R Flow) : PEnv → R Flow := fun env => (m env).bind fun items env => forGo (turnS g mb) items env
def whileGo (t : PEnv → R Bool) (mb : PEnv → R Flow) : Nat → PEnv → R Flow
  | 0, _ => .stuck
  | n + 1, env => (t env).bind fun c env => if c then
      match mb env with
      | .ok .nx e => whileGo t mb n e
      | .ok .cont e => whileGo t mb n e
      | .ok .brk e => .ok .nx e
      | r => r
    else .ok .nx env
section
variable {C : Cfg} {T : Ent} {E0 : L2.St → XK}
theorem tS_for {X : Cx} {tg iter : Expr} {body : List Stmt} {pos : Pos} {js : List Nat} {g : Tg} {m : PEnv → R (List D)} {mb : PEnv → R Flow} (hp : PassesOwn (model X.prog X.w) X.A X.env X.xe) (hc : X.calm = true)
    (hi : PI X tg iter (tI C E0 m)) (hg : PG X tg (tG C js g)) (hb : PSs X body (tS C T E0 mb)) (hs : ∀ x, foldedSetIterable iter X.env x = pure x := by intro _; rfl) : PS X (.For tg iter body [] pos) (tS C T E0 (forS m g mb)) := by
  refine PS.weak (ps_for hp hc hi hg hb hs) fun Z σ H ⟨env, F, loc, h⟩ => ⟨env, F, loc.rel, ?_⟩
  unfold forS at h
  cases em : m env with
  | stuck => rw [em] at h; exact h.elim
  | exc c x e => rw [em] at h; exact fun d F' H' n xr => h d σ F' H' (loc.nx n) n.adv.fz xr
  | ok items env1 =>
    rw [em] at h
    have h : PostS C T E0 F Z (forGo (turnS g mb) items env1) := h
    intro J F1 H1 n src
    refine ⟨fun i k σ' H' => k = items.length - i ∧ i ≤ items.length ∧ ∃ env' F', Loc C T σ' env' F' H' ∧ Ex F1 F' ∧ PostS C T E0 F' Z (forGo (turnS g mb) (items.drop i) env'), ⟨items.length, by simp, Nat.zero_le _, env1, F1, loc.nx n, Evl.Ex.refl _, by simpa using h.up n.adv.fz⟩, ?_⟩
    rintro i k σ' H' ⟨rfl, hi, env', F', l, ex, h'⟩
    by_cases hlt : i < items.length
    · right
      refine ⟨src.go i F' H' hlt ex l.rel.ex, fun σ2 H2 => i + 1 ≤ items.length ∧ ∃ env2 F2, Loc C T σ2 env2 F2 H2 ∧ Ex F1 F2 ∧ PostS C T E0 F2 Z (forGo (turnS g mb) (items.drop (i + 1)) env2), fun σ2 H2 hN => ⟨items.length - (i + 1), by omega, rfl, hN⟩, fun x H2 y => ?_⟩
      obtain ⟨d, hd, alt⟩ := src.yld i F' H' x H2 hlt ex l.rel.ex y
      have ed : items.drop i = d :: items.drop (i + 1) := by
        obtain ⟨hl, hv⟩ := List.getElem?_eq_some_iff.mp hd
        rw [List.drop_eq_getElem_cons hl, hv]
      rw [ed] at h'
      have h' : PostS C T E0 F' Z (match turnS g mb d env' with
        | .ok .nx e => forGo (turnS g mb) (items.drop (i + 1)) e
        | .ok .cont e => forGo (turnS g mb) (items.drop (i + 1)) e
        | .ok .brk e => .ok .nx e
        | r => r) := h'
      obtain ⟨F2, n2, rp⟩ : ∃ F2, Nx C.K C.fa σ' env' F' H' env' F2 H2 ∧ Rp C.K F2 x d := by
        rcases alt with ⟨rfl, rp⟩ | ⟨p, o, hp, rfl, rp⟩
        · exact ⟨F', Nx.refl l.rel, rp⟩
        · exact ⟨_, l.rel.laid hp, rp⟩
      refine ⟨env', F2, d, n2.rel, rp, ?_⟩
      unfold turnS at h'
      cases eg : g d env' with
      | none => rw [eg] at h'; exact h'.elim
      | some e2 =>
        rw [eg] at h'
        dsimp only at h'
        intro σ2 rel2 t2
        have l2 := (l.nx n2).tset rel2 t2
        refine ⟨e2, F2, l2, ?_⟩
        have fz := n2.adv.fz
        have h' := h'.up fz
        cases eb : mb e2 with
        | stuck => rw [eb] at h'; exact h'.elim
        | exc c x e => rw [eb] at h'; exact h'
        | ok f e =>
          rw [eb] at h'
          cases f with
          | nx => exact fun σ3 F3 H3 l3 x3 => ⟨hlt, e, F3, l3, (ex.trans fz).trans x3, h'.up x3⟩
          | cont => exact fun σ3 F3 H3 l3 x3 => ⟨hlt, e, F3, l3, (ex.trans fz).trans x3, h'.up x3⟩
          | brk => exact h'
          | ret r => exact h'
    · have hi' : i = items.length := by omega
      subst hi'
      rw [List.drop_length] at h'
      exact .inl ⟨src.stop F' H' ex l.rel.ex, h' σ' F' H' l (Evl.Ex.refl _)⟩
theorem tS_while {X : Cx} {c : Expr} {body : List Stmt} {pos : Pos} {t : PEnv → R Bool} {mb : PEnv → R Flow} {n : Nat} (hp : PassesOwn (model X.prog X.w) X.A X.env X.xe) (hc : PT X c (tRT C E0 t)) (hb : PSs X body (tS C T E0 mb)) :
    PS X (.While c body [] pos) (tS C T E0 (whileGo t mb n)) := by
  refine PS.weak (ps_while hp hc hb) fun Z σ H ⟨env, F, loc, h⟩ => ?_
  refine ⟨fun k σ' H' => ∃ env' F', Loc C T σ' env' F' H' ∧ PostS C T E0 F' Z (whileGo t mb k env'), ⟨n, env, F, loc, h⟩, ?_⟩
  rintro k σ' H' ⟨env', F', l, h'⟩
  cases k with
  | zero => exact h'.elim
  | succ k =>
    refine ⟨env', F', l.rel, seqTS l h' fun b env1 F1 H1 n1 h1 => ?_⟩
    cases b with
    | false => exact h1 σ' F1 H1 (l.nx n1) n1.adv.fz
    | true =>
      rw [if_pos rfl]
      have h1 := h1.up n1.adv.fz
      refine ⟨fun σ2 H2 => ∃ env2 F2, Loc C T σ2 env2 F2 H2 ∧ PostS C T E0 F2 Z (whileGo t mb k env2), fun σ2 H2 hN => ⟨k, Nat.lt_succ_self _, hN⟩, env1, F1, l.nx n1, ?_⟩
      have h1 : PostS C T E0 F1 Z (match mb env1 with
        | .ok .nx e => whileGo t mb k e
        | .ok .cont e => whileGo t mb k e
        | .ok .brk e => .ok .nx e
        | r => r) := h1
      cases eb : mb env1 with
      | stuck => rw [eb] at h1; exact h1.elim
      | exc c x e => rw [eb] at h1; exact h1
      | ok f e =>
        rw [eb] at h1
        cases f with
        | nx => exact fun σ3 F3 H3 l3 x3 => ⟨e, F3, l3, h1.up x3⟩
        | cont => exact fun σ3 F3 H3 l3 x3 => ⟨e, F3, l3, h1.up x3⟩
        | brk => exact h1
        | ret r => exact h1
end
end Pi


set_option Elab.async false
set_option linter.all false
set_option maxRecDepth 100000
set_option autoImplicit false
/-! Pi10: comprehensions -/
namespace Pi
open PySem PySem.Spec PyProof.Rows L2

def wipeE (env : PEnv) : List Nat → PEnv
  | [] => env
  | j :: js => (wipeE env js).set j none
/-- the slots js as in a, the others as in b -/
def restE (a b : PEnv) : List Nat → PEnv
  | [] => b
  | j :: js => (restE a b js).set j (match a[j]? with | some s => s | none => none)
def plainAt (env : PEnv) (j : Nat) : Bool := match env[j]? with
  | some (some s) => s.mut?.isNone
  | some none => true
  | none => false
def lcGo (js : List Nat) (g : Tg) (t : PEnv → R Bool) (e : PEnv → R Val) : List D → PEnv → List D → R (List D)
  | [], env, acc => .ok acc env
  | x :: xs, env, acc => match g x env with
    | none => .stuck
    | some env1 => match t env1 with
      | .ok true env2 => match e env2 with
        | .ok r env3 => match r.frz with
          | .d y => if acc.length < big then lcGo js g t e xs (wipeE env3 js) (acc ++ [y]) else .stuck
          | _ => .stuck
        | _ => .stuck
      | .ok false env2 => lcGo js g t e xs (wipeE env2 js) acc
      | _ => .stuck
def lcFin (js : List Nat) (env : PEnv) : R (List D) → R Val
  | .ok acc e => .ok (.new acc) (restE env e js)
  | _ => .stuck
def lcE (js : List Nat) (m : PEnv → R (List D)) (g : Tg) (t : PEnv → R Bool) (e : PEnv → R Val) : PEnv → R Val := fun env => (m env).bind fun items env =>
  if js.all (plainAt env) = true then lcFin js env (lcGo js g t e items (wipeE env js) []) else .stuck
def yesT : PEnv → R Bool := fun env => .ok true env

theorem wipeE_len (env : PEnv) : ∀ js, (wipeE env js).length = env.length
  | [] => rfl
  | j :: js => by show ((wipeE env js).set j none).length = _; rw [List.length_set, wipeE_len env js]
theorem wipeE_ne {env : PEnv} {i : Nat} : ∀ {js : List Nat}, i ∉ js → (wipeE env js)[i]? = env[i]?
  | [], _ => rfl
  | j :: js, h => by
    show ((wipeE env js).set j none)[i]? = _
    rw [List.getElem?_set_ne (fun e => h (by rw [e]; exact List.mem_cons_self)), wipeE_ne fun m => h (List.mem_cons_of_mem _ m)]
theorem wipeE_some {env : PEnv} {i : Nat} {s : Slot} : ∀ {js : List Nat}, (wipeE env js)[i]? = some (some s) → i ∉ js ∧ env[i]? = some (some s)
  | [], h => ⟨by simp, h⟩
  | j :: js, h => by
    rcases getSet (show ((wipeE env js).set j none)[i]? = some (some s) from h) with ⟨_, q⟩ | ⟨z, q⟩
    · cases q
    · obtain ⟨h1, h2⟩ := wipeE_some q
      exact ⟨by simp [z, h1], h2⟩
theorem wipe_ne {σ : L2.St} {i : Nat} : ∀ {js : List Nat}, i ∉ js → (wipe σ js)[i]? = σ[i]?
  | [], _ => rfl
  | j :: js, h => by
    show ((wipe σ js).set j none)[i]? = _
    rw [List.getElem?_set_ne (fun e => h (by rw [e]; exact List.mem_cons_self)), wipe_ne fun m => h (List.mem_cons_of_mem _ m)]
theorem wipe_in {σ : L2.St} {i : Nat} : ∀ {js : List Nat}, i ∈ js → (wipe σ js)[i]? = (if i < σ.length then some none else none)
  | [], h => by cases h
  | j :: js, h => by
    show ((wipe σ js).set j none)[i]? = _
    by_cases z : i = j
    · subst z
      by_cases hl : i < σ.length
      · rw [if_pos hl, List.getElem?_set_self (by rw [wipe_length]; exact hl)]
      · rw [if_neg hl]
        exact List.getElem?_eq_none (by rw [List.length_set, wipe_length]; omega)
    · rw [List.getElem?_set_ne (fun e => z e.symm)]
      rcases List.mem_cons.mp h with q | q
      · exact absurd q z
      · exact wipe_in q
theorem wipe_eq {σ σ' : L2.St} {js : List Nat} (hl : σ'.length = σ.length) (h : ∀ i, i ∉ js → σ'[i]? = σ[i]?) : wipe σ' js = wipe σ js := by
  refine List.ext_getElem? fun i => ?_
  by_cases z : i ∈ js
  · rw [wipe_in z, wipe_in z, hl]
  · rw [wipe_ne z, wipe_ne z, h i z]
theorem wipe_wipe {σ : L2.St} {js : List Nat} : wipe (wipe σ js) js = wipe σ js := wipe_eq (wipe_length σ js) fun i h => wipe_ne h
theorem restE_len (a b : PEnv) : ∀ js, (restE a b js).length = b.length
  | [] => rfl
  | j :: js => by show ((restE a b js).set j _).length = _; rw [List.length_set, restE_len a b js]
theorem restE_ne {a b : PEnv} {i : Nat} : ∀ {js : List Nat}, i ∉ js → (restE a b js)[i]? = b[i]?
  | [], _ => rfl
  | j :: js, h => by
    show ((restE a b js).set j _)[i]? = _
    rw [List.getElem?_set_ne (fun e => h (by rw [e]; exact List.mem_cons_self)), restE_ne fun m => h (List.mem_cons_of_mem _ m)]
theorem restE_in {a b : PEnv} {i : Nat} {s : Slot} : ∀ {js : List Nat}, i ∈ js → (restE a b js)[i]? = some (some s) → a[i]? = some (some s)
  | [], h, _ => by cases h
  | j :: js, h, e => by
    rcases getSet (show ((restE a b js).set j (match a[j]? with | some s => s | none => none))[i]? = some (some s) from e) with ⟨z, q⟩ | ⟨z, q⟩
    · subst z
      cases ea : a[i]? with
      | none => rw [ea] at q; cases q
      | some o => rw [ea] at q; simp at q; rw [← q]
    · rcases List.mem_cons.mp h with q' | q'
      · exact absurd q' z
      · exact restE_in q' q

section
variable {C : Cfg} {σ : L2.St} {env env1 : PEnv} {F H F1 H1 : Hp} {js : List Nat}
theorem Rel.wipe (r : Rel C.K C.fa F H env σ) : Rel C.K C.fa F H (wipeE env js) (L2.wipe σ js) := by
  refine ⟨r.ex, by rw [wipeE_len, wipe_length]; exact r.len, fun i s e => ?_, fun i j xs ys hne ⟨s, e, m⟩ ⟨t, e2, m2⟩ => ?_⟩
  · obtain ⟨h1, h2⟩ := wipeE_some e
    rw [wipe_ne h1]
    exact r.at_ i s h2
  · obtain ⟨h1, h2⟩ := wipeE_some e
    obtain ⟨g1, g2⟩ := wipeE_some e2
    rw [wipe_ne h1, wipe_ne g1]
    exact r.dis i j xs ys hne ⟨s, h2, m⟩ ⟨t, g2, m2⟩
theorem MA.wipe {a : Addr} (m : MA (wipeE env js) (L2.wipe σ js) a) : MA env σ a := by
  obtain ⟨i, xs, ⟨s, e, hm⟩, q⟩ := m
  obtain ⟨h1, h2⟩ := wipeE_some e
  rw [wipe_ne h1] at q
  exact ⟨i, xs, ⟨s, h2, hm⟩, q⟩
end

section
variable {X : Cx} {fa ca : Str → Addr} {E0 : L2.St → XK}
abbrev noE : L2.St → XK := fun _ _ _ _ => False
theorem ts_yes : PTs X [] (tRT (Cf X fa ca) noE yesT) := ⟨fun pins s σ H Q I ⟨env, F, rel, h⟩ => pts_nil.run pins s σ H Q I (h F H (Nx.refl rel))⟩
/-- where a comprehension stands between two turns -/
structure Mid (C : Cfg) (js : List Nat) (σ : L2.St) (D : Addr) (env1 : PEnv) (F1 H1 : Hp) (env' : PEnv) (acc : List PyData) (F' H' : Hp) : Prop where
  rel : Rel C.K C.fa F' H' env' (L2.wipe σ js)
  adv : Adv (MA env1 σ) F1 H1 F' H'
  sub : ∀ a, MA env' (L2.wipe σ js) a → MA env1 σ a
  bor : ∀ (i : Nat) (xs : List PyData), i ∉ js → env1[i]? = some (some (.bor xs)) → ∃ ys, env'[i]? = some (some (.bor ys))
  new : H1 D = none ∧ F' D = none
  lst : ∃ vs, H' D = some (.lst vs) ∧ RpA C.K F' vs acc
theorem Mid.nx {C : Cfg} {js : List Nat} {σ σ2 : L2.St} {D : Addr} {env1 env' env2 : PEnv} {F1 H1 F' H' F2 H2 : Hp} {acc : List PyData} (hm : ∀ a, MA env1 σ a → H1 a ≠ none) (m : Mid C js σ D env1 F1 H1 env' acc F' H') {env3 : PEnv}
    (ma : ∀ a, MA env2 σ2 a → MA env' (L2.wipe σ js) a) (bo : ∀ (i : Nat) (xs : List PyData), i ∉ js → env'[i]? = some (some (.bor xs)) → env2[i]? = some (some (.bor xs))) (hw : L2.wipe σ2 js = L2.wipe σ js) (n : Nx C.K C.fa σ2 env2 F' H' env3 F2 H2) :
    Mid C js σ D env1 F1 H1 (wipeE env3 js) acc F2 H2 := by
  have nD : ¬ MA env1 σ D := fun q => hm D q m.new.1
  have n2 : ¬ MA env2 σ2 D := fun q => nD (m.sub D (ma D q))
  obtain ⟨vs, h1, h2⟩ := m.lst
  refine ⟨by rw [← hw]; exact n.rel.wipe, m.adv.trans n.adv fun x q _ => m.sub x (ma x q), fun a q => m.sub a (ma a (n.sub a ?_)), fun i xs hi e => ?_, ⟨m.new.1, n.adv.fresh D m.new.2 (by rw [h1]; simp) n2⟩, vs, n.adv.keep D _ h1 n2, h2.up n.adv.fz⟩
  · rw [← hw] at q; exact q.wipe
  · obtain ⟨ys, e1⟩ := m.bor i xs hi e
    obtain ⟨zs, e2⟩ := n.bor i ys (bo i ys hi e1)
    exact ⟨zs, by rw [wipeE_ne hi]; exact e2⟩
theorem Mid.nx0 {C : Cfg} {js : List Nat} {σ : L2.St} {D : Addr} {env1 env' env3 : PEnv} {F1 H1 F' H' F2 H2 : Hp} {acc : List PyData} (hm : ∀ a, MA env1 σ a → H1 a ≠ none) (m : Mid C js σ D env1 F1 H1 env' acc F' H') (n : Nx C.K C.fa (L2.wipe σ js) env' F' H' env3 F2 H2) :
    Mid C js σ D env1 F1 H1 env3 acc F2 H2 := by
  have nD : ¬ MA env1 σ D := fun q => hm D q m.new.1
  have n2 : ¬ MA env' (L2.wipe σ js) D := fun q => nD (m.sub D q)
  obtain ⟨vs, h1, h2⟩ := m.lst
  refine ⟨n.rel, m.adv.trans n.adv fun x q _ => m.sub x q, fun a q => m.sub a (n.sub a q), fun i xs hi e => ?_, ⟨m.new.1, n.adv.fresh D m.new.2 (by rw [h1]; simp) n2⟩, vs, n.adv.keep D _ h1 n2, h2.up n.adv.fz⟩
  obtain ⟨ys, e1⟩ := m.bor i xs hi e
  exact n.bor i ys e1
theorem Mid.push {C : Cfg} {js : List Nat} {σ : L2.St} {D : Addr} {env1 env' : PEnv} {F1 H1 F' H' : Hp} {acc : List PyData} {vs : List V} {v : V} {y : PyData} (hm : ∀ a, MA env1 σ a → H1 a ≠ none) (m : Mid C js σ D env1 F1 H1 env' acc F' H')
    (h : H' D = some (.lst vs)) (ra : RpA C.K F' vs acc) (r : Rp C.K F' v y) : Mid C js σ D env1 F1 H1 env' (acc ++ [y]) F' (upd H' D (.lst (vs ++ [v]))) := by
  have nD : ¬ MA env1 σ D := fun q => hm D q m.new.1
  refine ⟨⟨fun a u q => ?_, m.rel.len, fun i s e => ?_, m.rel.dis⟩, ⟨m.adv.fz, fun a q => ?_, m.adv.fresh, fun a u q nm => ?_⟩, m.sub, m.bor, m.new, _, upd_same, ra.app (.cons r .nil)⟩
  · have z : a ≠ D := fun z => by rw [z, m.new.2] at q; cases q
    rw [upd_ne z]; exact m.rel.ex a u q
  · obtain ⟨w, hw, hs⟩ := m.rel.at_ i s e
    refine ⟨w, hw, ?_⟩
    cases hmu : s.mut? with
    | some xs =>
      obtain ⟨b, ws, rfl, g1, g2, g3⟩ := hs.mu hmu
      have z : b ≠ D := fun z => nD (m.sub D ⟨i, xs, ⟨s, e, hmu⟩, by rw [hw, z]⟩)
      exact SRel.of_mu hmu ⟨b, ws, rfl, by rw [upd_ne z]; exact g1, g2, g3⟩
    | none =>
      cases s with
      | val x => exact hs
      | fn f => exact hs
      | lst xs => cases hmu
      | bor xs => cases hmu
      | set xs => cases hmu
  · by_cases z : a = D
    · subst z; rw [upd_same]; simp
    · rw [upd_ne z]; exact m.adv.dom a q
  · have z : a ≠ D := fun z => by rw [z, m.new.1] at q; cases q
    rw [upd_ne z]; exact m.adv.keep a u q nm
theorem lc_weak {C : Cfg} {js : List Nat} {g : Tg} {m : PEnv → R (List PyData)} {t : PEnv → R Bool} {e : PEnv → R Val} {σ : L2.St} {H : Hp} {Q : VK} (h : tR C E0 (lcE js m g t e) σ H Q) :
    tLc (tI C E0 m) (tG C js g) (tRT C noE t) (tR C noE e) js σ H Q := by
  obtain ⟨env, F, rel, h⟩ := h
  refine ⟨env, F, rel, ?_⟩
  unfold lcE at h
  cases em : m env with
  | stuck => rw [em] at h; exact h.elim
  | exc c x e1 => rw [em] at h; exact h
  | ok items env1 =>
    rw [em] at h
    intro J F1 H1 n src D hD
    have h := Post.later n (show Post C E0 σ env F H (if js.all (plainAt env1) = true then lcFin js env1 (lcGo js g t e items (wipeE env1 js) []) else .stuck) Q from h)
    by_cases pl : js.all (plainAt env1) = true
    · rw [if_pos pl] at h
      have hm : ∀ a, MA env1 σ a → H1 a ≠ none := n.rel.nm
      have fD : F1 D = none := by
        cases z : F1 D with
        | none => rfl
        | some u => rw [n.rel.ex D u z] at hD; cases hD
      have nl := n.rel.laidN (o := .lst []) hD
      refine ⟨fun i k H' => k = items.length - i ∧ i ≤ items.length ∧ ∃ env' acc F', Mid C js σ D env1 F1 H1 env' acc F' H' ∧ Post C E0 σ env1 F1 H1 (lcFin js env1 (lcGo js g t e (items.drop i) env' acc)) Q,
        ⟨items.length, by simp, Nat.zero_le _, wipeE env1 js, [], F1, ⟨nl.rel.wipe, nl.adv, fun a q => q.wipe, fun i xs hi e => ⟨xs, by rw [wipeE_ne hi]; exact e⟩, ⟨hD, fD⟩, [], upd_same, .nil⟩, by simpa using h⟩, ?_⟩
      rintro i k H' ⟨rfl, hi, env', acc, F', mid, post⟩
      by_cases hlt : i < items.length
      · right
        refine ⟨src.go i F' H' hlt mid.adv.fz mid.rel.ex, fun H2 => i + 1 ≤ items.length ∧ ∃ env2 acc2 F2, Mid C js σ D env1 F1 H1 env2 acc2 F2 H2 ∧ Post C E0 σ env1 F1 H1 (lcFin js env1 (lcGo js g t e (items.drop (i + 1)) env2 acc2)) Q,
          fun H2 hN => ⟨items.length - (i + 1), by omega, rfl, hN⟩, fun x H2 y => ?_⟩
        obtain ⟨d, hd, alt⟩ := src.yld i F' H' x H2 hlt mid.adv.fz mid.rel.ex y
        have ed : items.drop i = d :: items.drop (i + 1) := by
          obtain ⟨hl, hv⟩ := List.getElem?_eq_some_iff.mp hd
          rw [List.drop_eq_getElem_cons hl, hv]
        rw [ed] at post
        obtain ⟨F2, n2, rp⟩ : ∃ F2, Nx C.K C.fa (L2.wipe σ js) env' F' H' env' F2 H2 ∧ Rp C.K F2 x d := by
          rcases alt with ⟨rfl, rp⟩ | ⟨p, o, hp, rfl, rp⟩
          · exact ⟨F', Nx.refl mid.rel, rp⟩
          · exact ⟨_, mid.rel.laid hp, rp⟩
        have mid2 := mid.nx0 hm n2
        refine ⟨env', F2, d, n2.rel, rp, ?_⟩
        unfold lcGo at post
        cases eg : g d env' with
        | none => rw [eg] at post; exact post.elim
        | some env2 =>
          rw [eg] at post
          dsimp only at post
          intro σ2 rel2 ts
          have hw : L2.wipe σ2 js = L2.wipe σ js := by
            rw [← wipe_wipe (σ := σ) (js := js)]
            refine wipe_eq ts.len.2 fun j hj => ?_
            rcases ts.at_ j with ⟨_, q⟩ | ⟨q, _⟩
            · exact q
            · exact absurd q hj
          refine ⟨hw, env2, F2, rel2, ?_⟩
          cases et : t env2 with
          | stuck => rw [et] at post; exact post.elim
          | exc c x e1 => rw [et] at post; exact post.elim
          | ok b env3 =>
            rw [et] at post
            intro F3 H3 n3
            have bo : ∀ (i : Nat) (xs : List PyData), i ∉ js → env'[i]? = some (some (.bor xs)) → env2[i]? = some (some (.bor xs)) := fun i xs _ q => (ts.bor q).1
            cases b with
            | false =>
              rw [if_neg Bool.false_ne_true]
              exact ⟨hlt, _, acc, F3, mid2.nx hm (fun a q => ts.ma q) bo hw n3, post⟩
            | true =>
              rw [if_pos rfl]
              refine ⟨env3, F3, n3.rel, ?_⟩
              dsimp only at post
              cases ee : e env3 with
              | stuck => rw [ee] at post; exact post.elim
              | exc c x e1 => rw [ee] at post; exact post.elim
              | ok r env4 =>
                rw [ee] at post
                intro v F4 H4 n4 p
                obtain ⟨F5, n5, vr⟩ := n4.frz p n3.rel.nm
                dsimp only at post
                cases er : r.frz with
                | own i => rw [er] at post; exact post.elim
                | new xs => rw [er] at post; exact post.elim
                | fn f => rw [er] at post; exact post.elim
                | d z =>
                  rw [er] at post vr
                  dsimp only at post
                  by_cases hb : acc.length < big
                  · rw [if_pos hb] at post
                    have mid3 := mid2.nx hm (fun a q => ts.ma q) bo hw (n3.trans n5)
                    obtain ⟨vs, g1, g2⟩ := mid3.lst
                    exact ⟨vs, g1, by rw [g2.len]; exact big_lt hb, hlt, _, _, F5, mid3.push hm g1 g2 vr, post⟩
                  · rw [if_neg hb] at post; exact post.elim
      · have hi' : i = items.length := by omega
        subst hi'
        rw [List.drop_length] at post
        refine .inl ⟨src.stop F' H' mid.adv.fz mid.rel.ex, ?_⟩
        obtain ⟨vs, g1, g2⟩ := mid.lst
        have nD : ¬ MA env1 σ D := fun q => hm D q hD
        have muB : ∀ {i : Nat} {xs : Mc}, Mu (restE env1 env' js) i xs → i ∉ js ∧ Mu env' i xs := by
          intro i xs ⟨s, e, hmu⟩
          by_cases z : i ∈ js
          · have q := restE_in z e
            have pi := List.all_eq_true.mp pl i z
            unfold plainAt at pi
            rw [q] at pi
            simp [hmu] at pi
          · rw [restE_ne z] at e
            exact ⟨z, s, e, hmu⟩
        refine post (.ref D) F' H' ⟨⟨mid.rel.ex, ?_, fun i s e => ?_, fun i j xs ys hne m1 m2 => ?_⟩, mid.adv, fun a ⟨i, xs, mu, q⟩ => ?_, fun i xs e => ?_⟩ ⟨D, vs, rfl, hD, g1, mid.new.2, g2⟩
        · rw [restE_len, mid.rel.len, wipe_length]
        · by_cases z : i ∈ js
          · have q := restE_in z e
            obtain ⟨v, hv, hs⟩ := n.rel.at_ i s q
            have pi := List.all_eq_true.mp pl i z
            unfold plainAt at pi
            rw [q] at pi
            refine ⟨v, hv, ?_⟩
            cases s with
            | val x => exact Rp.up (show Rp C.K F1 v x from hs) mid.adv.fz
            | fn f => exact hs
            | lst xs => simp [Slot.mut?] at pi
            | bor xs => simp [Slot.mut?] at pi
            | set xs => simp [Slot.mut?] at pi
          · rw [restE_ne z] at e
            obtain ⟨v, hv, hs⟩ := mid.rel.at_ i s e
            rw [wipe_ne z] at hv
            exact ⟨v, hv, hs⟩
        · obtain ⟨z1, k1⟩ := muB m1
          obtain ⟨z2, k2⟩ := muB m2
          have := mid.rel.dis i j xs ys hne k1 k2
          rw [wipe_ne z1, wipe_ne z2] at this
          exact this
        · obtain ⟨z1, k1⟩ := muB mu
          exact mid.sub a ⟨i, xs, k1, by rw [wipe_ne z1]; exact q⟩
        · have z : i ∉ js := fun z => by
            have pi := List.all_eq_true.mp pl i z
            unfold plainAt at pi
            rw [e] at pi
            simp [Slot.mut?] at pi
          obtain ⟨ys, q⟩ := mid.bor i xs z e
          exact ⟨ys, by rw [restE_ne z]; exact q⟩
    · rw [if_neg pl] at h; exact h.elim
theorem e_lc {elt tg iter : Expr} {ifs : List Expr} {scope : Scope} {own : List (Str × Nat)} {pos : Pos} {g : Tg} {m : PEnv → R (List PyData)} {t : PEnv → R Bool} {e : PEnv → R Val} (hc : X.calm = true) (hN : X.N.Nodup)
    (hi : PI X tg iter (tI (Cf X fa ca) E0 m)) (ok : BlkOk X.N X.env.scope scope own)
    (hg : ∀ (s : Shared) (H : Hp) (A : Addr) (cl : List (Str × Addr)) (fp : List Addr), PG (X.blk s H scope (compEnvC scope cl A X.env) fp) tg (tG (Cf X fa ca) (own.map (·.2)) g))
    (ht : ∀ (s : Shared) (H : Hp) (A : Addr) (cl : List (Str × Addr)) (fp : List Addr), PTs (X.blk s H scope (compEnvC scope cl A X.env) fp) ifs (tRT (Cf X fa ca) noE t))
    (he : ∀ (s : Shared) (H : Hp) (A : Addr) (cl : List (Str × Addr)) (fp : List Addr), PE (X.blk s H scope (compEnvC scope cl A X.env) fp) elt (tR (Cf X fa ca) noE e)) (hs : ∀ x, foldedSetIterable iter X.env x = pure x := by intro _; rfl) :
    PE X (.ListComp elt [⟨tg, iter, ifs, 0⟩] scope pos) (tR (Cf X fa ca) E0 (lcE (own.map (·.2)) m g t e)) := by
  refine PE.weak (pe_lc hc hN hi ok hg ht he hs) fun σ H Q h => lc_weak h
end
end Pi


set_option Elab.async false
set_option linter.all false
set_option maxRecDepth 100000
set_option autoImplicit false
/-! Pi11: items, slices, lists that change -/
namespace Pi
open PySem PySem.Spec PyProof.Rows L2

section
variable {X : Cx} {fa ca : Str → Addr} {E0 : L2.St → XK}
/-! ### items -/
def ixD : D → D → Option Val
  | .list xs, .int i => match atI xs i with
    | some d => some (.d d)
    | none => none
  | .tuple xs, .int i => match atI xs i with
    | some d => some (.d d)
    | none => none
  | .str z, .int i => if z.length ≤ big then
      match atI z.cps.toList i with
      | some c => some (.d (.str ⟨#[c]⟩))
      | none => none
    else none
  | _, _ => none
theorem RpA.atI {K : Kf} {F : Hp} {vs : List V} {ds : List D} (h : RpA K F vs ds) {i : Int} {d : D} (e : L2.atI ds i = some d) : ∃ v, L2.atI vs i = some v ∧ Rp K F v d := by
  unfold L2.atI at e ⊢
  rw [h.len]
  cases q : ixN ds.length i with
  | none => rw [q] at e; cases e
  | some j =>
    rw [q] at e
    exact h.getD e
theorem ix_D : IxR X (r2 (Cf X fa ca) ixD) := by
  intro value slice pins s σ H x y v u Q I rx ry h hs
  obtain ⟨τ, env, F, dx, dy, res, rel, cx, cy, g, q⟩ := h
  cases dy with
  | int i =>
    cases cy.int
    cases dx with
    | list xs =>
      obtain ⟨a, vs, rfl, sa, ra⟩ := cx.list
      have g : (match atI xs i with | some d => some (Val.d d) | none => none) = some res := g
      cases e : atI xs i with
      | none => rw [e] at g; cases g
      | some d =>
        rw [e] at g
        cases g
        obtain ⟨w, hw, rp⟩ := ra.atI e
        exact ix_list value slice pins s σ H _ _ v u Q I rx ry ⟨a, vs, i, w, rfl, rfl, sa, hw, q.here rel rp⟩ hs
    | tuple xs =>
      obtain ⟨a, vs, rfl, sa, ra, _⟩ := cx.tup
      have g : (match atI xs i with | some d => some (Val.d d) | none => none) = some res := g
      cases e : atI xs i with
      | none => rw [e] at g; cases g
      | some d =>
        rw [e] at g
        cases g
        obtain ⟨w, hw, rp⟩ := ra.atI e
        exact ix_tup value slice pins s σ H _ _ v u Q I rx ry ⟨a, vs, i, w, rfl, rfl, sa, hw, q.here rel rp⟩ hs
    | str z =>
      cases cx.str
      have g : (if z.length ≤ big then (match atI z.cps.toList i with | some c => some (Val.d (.str ⟨#[c]⟩)) | none => none) else none) = some res := g
      by_cases hz : z.length ≤ big
      · rw [if_pos hz] at g
        cases e : atI z.cps.toList i with
        | none => rw [e] at g; cases g
        | some c =>
          rw [e] at g
          cases g
          exact ix_str value slice pins s σ H _ _ v u Q I rx ry ⟨z, i, c, rfl, rfl, big_line hz, e, q.here rel (.str _)⟩ hs
      · rw [if_neg hz] at g; cases g
    | _ => cases g
  | _ => cases dx <;> cases g
theorem e_ix {a b : Expr} {ma mb : PEnv → R Val} {pos : Pos} (ha : PE X a (tR (Cf X fa ca) E0 ma)) (hb : PE X b (tR (Cf X fa ca) E0 mb)) (hs : PlainIx b) : PE X (.Subscript a b pos) (tR (Cf X fa ca) E0 (binE ixD ma mb)) :=
  PE.weak (pe_ix ix_D ha hb hs) fun σ H Q h => bin_weak h

/-! ### slices -/
def cutD (xs : List D) (lo hi : Option Int) : List D := (xs.drop (HT.sIx xs.length 0 lo)).take (HT.sIx xs.length xs.length hi - HT.sIx xs.length 0 lo)
def slD : D → Option Int → Option Int → Option Val
  | .list xs, lo, hi => some (.new (cutD xs lo hi))
  | .tuple xs, lo, hi => some (.d (.tuple (cutD xs lo hi)))
  | .str z, lo, hi => if z.length ≤ big then some (.d (.str (cutS z lo hi))) else none
  | _, _, _ => none
def partM (o : Option (PEnv → R Val)) (env : PEnv) (k : Option Int → PEnv → R Val) : R Val := match o with
  | none => k none env
  | some m => (m env).bindF fun r env => match r with
    | .d (.int i) => k (some i) env
    | _ => .stuck
def slE (a : PEnv → R Val) (lo hi : Option (PEnv → R Val)) : PEnv → R Val := fun env => (a env).bindF fun ra env => partM lo env fun l env => partM hi env fun u env => match cont env ra with
  | some x => match slD x l u with
    | some r => .ok r env
    | none => .stuck
  | none => .stuck
inductive PartOk (X : Cx) (fa ca : Str → Addr) (E0 : L2.St → XK) : Option Expr → Option (PEnv → R Val) → Prop
  | non : PartOk X fa ca E0 none none
  | som {e : Expr} {m : PEnv → R Val} : PE X e (tR (Cf X fa ca) E0 m) → PartOk X fa ca E0 (some e) (some m)
theorem part_ok {e : Option Expr} {o : Option (PEnv → R Val)} (h : PartOk X fa ca E0 e o) : PO X e (fun σ H Q => ∃ env F k Q0, Rel X.K (Cf X fa ca).fa F H env σ ∧ Post (Cf X fa ca) E0 σ env F H (partM o env k) Q0 ∧ ∀ l env1 F1 H1, Nx X.K (Cf X fa ca).fa σ env F H env1 F1 H1 → Post (Cf X fa ca) E0 σ env1 F1 H1 (k l env1) Q0 → Q l H1) := by
  cases h with
  | non => exact ⟨fun pins s σ H Q I ⟨env, F, k, Q0, rel, h, w⟩ => po_none.run pins s σ H Q I (w none env F H (Nx.refl rel) h)⟩
  | @som e m he =>
    refine ⟨fun pins s σ H Q I ⟨env, F, k, Q0, rel, h, w⟩ => (po_some he).run pins s σ H Q I ⟨env, F, rel, seqE rel h fun r env1 v F1 H1 n vr h1 => ?_⟩⟩
    cases r with
    | d x =>
      cases x with
      | int i =>
        cases (show Rp X.K F1 v (.int i) from vr)
        exact ⟨i, rfl, w (some i) env1 F1 H1 n h1⟩
      | _ => exact h1.elim
    | _ => exact h1.elim
theorem RpA.cut {K : Kf} {F : Hp} {vs : List V} {ds : List D} (h : RpA K F vs ds) (lo hi : Option Int) : RpA K F (cutV vs lo hi) (cutD ds lo hi) := by
  unfold cutV cutD
  rw [h.len]
  exact (h.drop _).take _
theorem e_sl {a : Expr} {lo hi : Option Expr} {ma : PEnv → R Val} {ml mh : Option (PEnv → R Val)} {pos p2 : Pos} (ha : PE X a (tR (Cf X fa ca) E0 ma)) (hl : PartOk X fa ca E0 lo ml) (hh : PartOk X fa ca E0 hi mh) :
    PE X (.Subscript a (.Slice lo hi none p2) pos) (tR (Cf X fa ca) E0 (slE ma ml mh)) := by
  refine PE.weak (pe_slice (sl_list.or (sl_tupA.or sl_str)) ha (part_ok hl) (part_ok hh)) fun σ H Q ⟨env, F, rel, h⟩ => ?_
  refine ⟨env, F, rel, seqE rel h fun ra env1 v F1 H1 n vr h1 => ?_⟩
  refine ⟨env1, F1, _, Q, n.rel, h1, fun l env2 F2 H2 n2 h2 => ?_⟩
  refine ⟨env2, F2, _, Q, n2.rel, h2, fun u env3 F3 H3 n3 h3 => ?_⟩
  have vr3 := (vr.up n2.adv.fz).up n3.adv.fz
  cases ec : cont env3 ra with
  | none => rw [ec] at h3; exact h3.elim
  | some x =>
    rw [ec] at h3
    dsimp only at h3
    have cx := cont_ct n3.rel vr3 ec
    cases x with
    | list xs =>
      obtain ⟨b, vs, rfl, sa, ra'⟩ := cx.list
      exact .inl ⟨b, vs, rfl, sa, fun p hp => Post.newList n3.rel h3 (ra'.cut l u) hp⟩
    | tuple xs =>
      obtain ⟨b, vs, rfl, sa, ra', st⟩ := cx.tup
      refine .inr (.inl ⟨b, vs, rfl, sa, fun z => ?_, fun _ p hp => Post.newTup n3.rel h3 (ra'.cut l u) hp⟩)
      have e : cutD xs l u = xs := by
        unfold cutD
        rw [← ra'.len, z.1, z.2, ra'.len, List.drop_zero, Nat.sub_zero, List.take_length]
      have h3 : Post (Cf X fa ca) E0 σ env3 F3 H3 (.ok (.d (.tuple (cutD xs l u))) env3) Q := h3
      rw [e] at h3
      exact h3.here n3.rel (Rp.tup st ra')
    | str z =>
      cases cx.str
      have h3 : Post (Cf X fa ca) E0 σ env3 F3 H3 (match (if z.length ≤ big then some (Val.d (.str (cutS z l u))) else none) with | some r => .ok r env3 | none => .stuck) Q := h3
      by_cases hz : z.length ≤ big
      · rw [if_pos hz] at h3
        exact .inr (.inr ⟨z, rfl, big_line hz, h3.here n3.rel (Rp.str _)⟩)
      · rw [if_neg hz] at h3; exact h3.elim
    | _ => exact h3.elim

/-! ### lists that change -/
theorem Rel.putMu {K : Kf} {fa : Fs} {σ : L2.St} {env : PEnv} {F H : Hp} (rel : Rel K fa F H env σ) {i : Nat} {s : Slot} {xs xs' : List D} {a : Addr} {vs vs' : List V} (e : env[i]? = some (some s)) (hm : s.list? = some xs) (hv : σ[i]? = some (some (.ref a)))
    (h1 : H a = some (.lst vs)) (h2 : F a = none) (h3 : RpA K F vs' xs') : Nx K fa σ env F H (setMu env i xs') F (upd H a (.lst vs')) := by
  have hm := Slot.list_mut hm
  have mu0 : MA env σ a := ⟨i, _, ⟨s, e, hm⟩, hv⟩
  have muB : ∀ {j : Nat} {ys : Mc}, Mu (setMu env i xs') j ys → ∃ zs, Mu env j zs := by
    intro j ys ⟨t, q, m⟩
    by_cases z : j = i
    · subst z; exact ⟨_, s, e, hm⟩
    · rw [setMu_ne z] at q; exact ⟨ys, t, q, m⟩
  refine ⟨⟨fun b u q => ?_, by rw [setMu_len]; exact rel.len, fun j t q => ?_, fun j k ys zs hne m1 m2 => ?_⟩, ⟨Evl.Ex.refl _, fun b q => ?_, fun b q1 _ _ => q1, fun b u q nm => ?_⟩, fun b ⟨j, ys, m, q⟩ => ?_, fun j ys q => ?_⟩
  · have z : b ≠ a := fun z => by rw [z, h2] at q; cases q
    rw [upd_ne z]; exact rel.ex b u q
  · by_cases z : j = i
    · subst z
      rw [setMu_eq e] at q
      cases q
      exact ⟨_, hv, SRel.of_mu (put_mut hm) ⟨a, _, rfl, upd_same, h2, vs', rfl, h3⟩⟩
    · rw [setMu_ne z] at q
      obtain ⟨w, hw, hs⟩ := rel.at_ j t q
      refine ⟨w, hw, ?_⟩
      cases hmu : t.mut? with
      | some ys =>
        obtain ⟨b, ws, rfl, g1, g2, g3⟩ := hs.mu hmu
        have nb : b ≠ a := fun y => rel.dis j i ys _ z ⟨t, q, hmu⟩ ⟨s, e, hm⟩ (by rw [hw, hv, y])
        exact SRel.of_mu hmu ⟨b, ws, rfl, by rw [upd_ne nb]; exact g1, g2, g3⟩
      | none =>
        cases t with
        | val x => exact hs
        | fn f => exact hs
        | lst xs => cases hmu
        | bor xs => cases hmu
        | set xs => cases hmu
  · obtain ⟨ys', m1'⟩ := muB m1
    obtain ⟨zs', m2'⟩ := muB m2
    exact rel.dis j k ys' zs' hne m1' m2'
  · by_cases z : b = a
    · subst z; rw [upd_same]; simp
    · rw [upd_ne z]; exact q
  · have z : b ≠ a := fun z => nm (by rw [z]; exact mu0)
    rw [upd_ne z]; exact q
  · obtain ⟨zs, m'⟩ := muB m
    exact ⟨j, zs, m', q⟩
  · by_cases z : j = i
    · subst z
      rw [e] at q
      cases q
      exact ⟨xs', setMu_eq e⟩
    · exact ⟨ys, by rw [setMu_ne z]; exact q⟩
/-- slot i's list, changed by f; what it gives -/
def chgV (i : Nat) (f : List D → Option (Val × List D)) (env : PEnv) : R Val := match env[i]? with
  | some (some s) => match s.list? with
    | some xs => match f xs with
      | some (r, ys) => .ok r (setMu env i ys)
      | none => .stuck
    | none => .stuck
  | _ => .stuck
def appV (i : Nat) (rs : List Val) (env : PEnv) : R Val := match dsOf rs with
  | some [y] => chgV i (fun xs => if xs.length < big then some (.d .none, xs ++ [y]) else none) env
  | _ => .stuck
def muAt (env : PEnv) (i : Nat) : Bool := match env[i]? with
  | some (some s) => s.list?.isSome
  | _ => false
def appE (i : Nat) (ms : PEnv → R (List Val)) : PEnv → R Val := fun env => if muAt env i = true then (ms env).bind (appV i) else .stuck
def popE (i : Nat) : PEnv → R Val := chgV i fun xs => match xs[xs.length - 1]? with
  | some y => some (.d y, xs.dropLast)
  | none => none
def popAtD (i : Nat) (env : PEnv) : D → R Val
  | .int k => chgV i (fun xs => if -(2 ^ 63) ≤ k ∧ k < 2 ^ 63 then
      match seqIndex? k xs.length with
      | some j => match xs[j]? with
        | some y => some (.d y, xs.eraseIdx j)
        | none => none
      | none => none
    else none) env
  | _ => .stuck
def popAtV (i : Nat) (rs : List Val) (env : PEnv) : R Val := match dsOf rs with
  | some [y] => popAtD i env y
  | _ => .stuck
def popAtE (i : Nat) (ms : PEnv → R (List Val)) : PEnv → R Val := fun env => if muAt env i = true then (ms env).bind (popAtV i) else .stuck
theorem chg_inv {C : Cfg} {i : Nat} {f : List D → Option (Val × List D)} {σ : L2.St} {env : PEnv} {F H : Hp} {Q : VK} (rel : Rel C.K C.fa F H env σ) (h : Post C E0 σ env F H (chgV i f env) Q) :
    ∃ s xs a vs r ys, env[i]? = some (some s) ∧ s.list? = some xs ∧ σ[i]? = some (some (.ref a)) ∧ H a = some (.lst vs) ∧ F a = none ∧ RpA C.K F vs xs ∧ f xs = some (r, ys) ∧ Post C E0 σ env F H (.ok r (setMu env i ys)) Q := by
  unfold chgV at h
  cases e : env[i]? with
  | none => rw [e] at h; exact h.elim
  | some o =>
    cases o with
    | none => rw [e] at h; exact h.elim
    | some s =>
      rw [e] at h
      dsimp only at h
      cases hm : s.list? with
      | none => rw [hm] at h; exact h.elim
      | some xs =>
        rw [hm] at h
        dsimp only at h
        cases hf : f xs with
        | none => rw [hf] at h; exact h.elim
        | some p =>
          obtain ⟨r, ys⟩ := p
          rw [hf] at h
          obtain ⟨v, hv, hs⟩ := rel.at_ i s e
          obtain ⟨a, vs, rfl, g1, g2, g3⟩ := hs.list hm
          exact ⟨s, xs, a, vs, r, ys, rfl, hm, hv, g1, g2, g3, hf, h⟩
theorem chg_post {C : Cfg} {i : Nat} {σ : L2.St} {env : PEnv} {F H : Hp} {Q : VK} {s : Slot} {xs ys : List D} {a : Addr} {vs ws : List V} {x : D} {v : V} (rel : Rel C.K C.fa F H env σ) (e : env[i]? = some (some s)) (hm : s.list? = some xs) (hv : σ[i]? = some (some (.ref a)))
    (g1 : H a = some (.lst vs)) (g2 : F a = none) (rw : RpA C.K F ws ys) (vr : Rp C.K F v x) (h : Post C E0 σ env F H (.ok (.d x) (setMu env i ys)) Q) : Q v (upd H a (.lst ws)) :=
  h v F _ (rel.putMu e hm hv g1 g2 rw) vr
theorem muAt_ok {K : Kf} {fa : Fs} {σ : L2.St} {env : PEnv} {F H : Hp} {i : Nat} (rel : Rel K fa F H env σ) (h : muAt env i = true) : ∃ a vs, σ[i]? = some (some (.ref a)) ∧ H a = some (.lst vs) := by
  unfold muAt at h
  cases e : env[i]? with
  | none => rw [e] at h; cases h
  | some o =>
    cases o with
    | none => rw [e] at h; cases h
    | some s =>
      rw [e] at h
      dsimp only at h
      cases hm : s.list? with
      | none => rw [hm] at h; cases h
      | some xs =>
        obtain ⟨v, hv, hs⟩ := rel.at_ i s e
        obtain ⟨a, vs, rfl, g1, _⟩ := hs.list hm
        exact ⟨a, vs, hv, g1⟩
theorem e_append {i : Nat} {x : Str} {e : Expr} {ms : PEnv → R (List Val)} {p apos cpos : Pos} (ho : PE X (.Name x p) (tVar i)) (ha : PA X [e] (tRA (Cf X fa ca) E0 ms)) (hbase : attributeBase (.Name x p) "append" X.env (eval (.Name x p) X.env) = eval (.Name x p) X.env := by rfl)
    (hfew : ((backTo cpos (starEach [e] X.env)).all (fun x => !x.1) && (backToKw cpos (keywordEach [] X.env)).all (fun x => x.1.isSome) && decide ([e].length + ([] : List Keyword).length + (if ([] : List Keyword).isEmpty then 0 else 1) < 30)) = true := by rfl)
    (hline : (apos.endLine == cpos.line) = true := by rfl) (hs : starEach [e] X.env = (false, eval e X.env) :: starEach [] X.env := by rfl) (hplain : (backTo cpos (starEach [] X.env)).any (·.1) = false := by rfl) :
    PE X (.Call (.Attribute (.Name x p) "append" apos) [e] [] cpos) (tR (Cf X fa ca) E0 (appE i ms)) := by
  refine PE.weak (pe_bm PySem.F.plainAttrs_list PySem.F.slot_list_append PySem.F.type_list_append mt_append ho ha hbase hfew hline hs hplain) fun σ H Q ⟨env, F, rel, h⟩ => ?_
  unfold appE at h
  by_cases hm : muAt env i = true
  · rw [if_pos hm] at h
    obtain ⟨a, vs, hv, g1⟩ := muAt_ok rel hm
    refine ⟨_, hv, .inl ⟨rfl, vs, Evl.sq_of g1⟩, env, F, rel, seqLE h fun rs env1 ws F1 H1 n wr h1 => ?_⟩
    unfold appV at h1
    cases ed : dsOf rs with
    | none => rw [ed] at h1; exact h1.elim
    | some ds =>
      rw [ed] at h1
      have ra := ds_ok wr ed
      match ds, h1, ra with
      | [], h1, _ => exact h1.elim
      | _ :: _ :: _, h1, _ => exact h1.elim
      | [y], h1, .cons ry .nil =>
        obtain ⟨s, xs, b, us, r, ys, k1, k2, k3, k4, k5, k6, k7, k8⟩ := chg_inv n.rel h1
        rw [hv] at k3
        cases k3
        by_cases z : xs.length < big
        · rw [if_pos z] at k7
          cases k7
          exact ⟨a, us, _, rfl, rfl, k4, by rw [k6.len]; exact big_lt z, chg_post (v := .non) n.rel k1 k2 hv k4 k5 (k6.app (.cons ry .nil)) Rp.non k8⟩
        · rw [if_neg z] at k7; cases k7
  · rw [if_neg hm] at h; exact h.elim
theorem RpA.dropLast {K : Kf} {F : Hp} {vs : List V} {ds : List D} (h : RpA K F vs ds) : RpA K F vs.dropLast ds.dropLast := by
  rw [List.dropLast_eq_take, List.dropLast_eq_take, h.len]
  exact h.take _
theorem e_pop {i : Nat} {x : Str} {p apos cpos : Pos} (ho : PE X (.Name x p) (tVar i)) (hbase : attributeBase (.Name x p) "pop" X.env (eval (.Name x p) X.env) = eval (.Name x p) X.env := by rfl) (hline : (apos.endLine == cpos.line) = true := by rfl) :
    PE X (.Call (.Attribute (.Name x p) "pop" apos) [] [] cpos) (tR (Cf X fa ca) E0 (popE i)) := by
  refine PE.weak (pe_bm0 PySem.F.plainAttrs_list PySem.F.slot_list_pop PySem.F.type_list_pop mt_pop ho hbase hline) fun σ H Q ⟨env, F, rel, h⟩ => ?_
  obtain ⟨s, xs, a, vs, r, ys, k1, k2, k3, k4, k5, k6, k7, k8⟩ := chg_inv rel h
  refine ⟨_, k3, .inl ⟨rfl, vs, Evl.sq_of k4⟩, ?_⟩
  cases e : xs[xs.length - 1]? with
  | none => rw [e] at k7; cases k7
  | some y =>
    rw [e] at k7
    cases k7
    obtain ⟨v, hv, ry⟩ := k6.getD e
    exact ⟨a, vs, v, rfl, rfl, k4, by rw [k6.len]; exact hv, chg_post rel k1 k2 k3 k4 k5 k6.dropLast ry k8⟩
theorem e_popAt {i : Nat} {x : Str} {e : Expr} {ms : PEnv → R (List Val)} {p apos cpos : Pos} (ho : PE X (.Name x p) (tVar i)) (ha : PA X [e] (tRA (Cf X fa ca) E0 ms)) (hbase : attributeBase (.Name x p) "pop" X.env (eval (.Name x p) X.env) = eval (.Name x p) X.env := by rfl)
    (hfew : ((backTo cpos (starEach [e] X.env)).all (fun x => !x.1) && (backToKw cpos (keywordEach [] X.env)).all (fun x => x.1.isSome) && decide ([e].length + ([] : List Keyword).length + (if ([] : List Keyword).isEmpty then 0 else 1) < 30)) = true := by rfl)
    (hline : (apos.endLine == cpos.line) = true := by rfl) (hs : starEach [e] X.env = (false, eval e X.env) :: starEach [] X.env := by rfl) (hplain : (backTo cpos (starEach [] X.env)).any (·.1) = false := by rfl) :
    PE X (.Call (.Attribute (.Name x p) "pop" apos) [e] [] cpos) (tR (Cf X fa ca) E0 (popAtE i ms)) := by
  refine PE.weak (pe_bm PySem.F.plainAttrs_list PySem.F.slot_list_pop PySem.F.type_list_pop mt_popAt ho ha hbase hfew hline hs hplain) fun σ H Q ⟨env, F, rel, h⟩ => ?_
  unfold popAtE at h
  by_cases hm : muAt env i = true
  · rw [if_pos hm] at h
    obtain ⟨a, vs, hv, g1⟩ := muAt_ok rel hm
    refine ⟨_, hv, .inl ⟨rfl, vs, Evl.sq_of g1⟩, env, F, rel, seqLE h fun rs env1 ws F1 H1 n wr h1 => ?_⟩
    unfold popAtV at h1
    cases ed : dsOf rs with
    | none => rw [ed] at h1; exact h1.elim
    | some ds =>
      rw [ed] at h1
      have ra := ds_ok wr ed
      match ds, h1, ra with
      | [], h1, _ => exact h1.elim
      | _ :: _ :: _, h1, _ => exact h1.elim
      | [y], h1, .cons ry .nil =>
        cases y with
        | int k =>
          cases ry
          obtain ⟨s, xs, b, us, r, ys, k1, k2, k3, k4, k5, k6, k7, k8⟩ := chg_inv n.rel h1
          rw [hv] at k3
          cases k3
          by_cases z : -(2 ^ 63) ≤ k ∧ k < 2 ^ 63
          · rw [if_pos z] at k7
            cases e1 : seqIndex? k xs.length with
            | none => rw [e1] at k7; cases k7
            | some j =>
              rw [e1] at k7
              dsimp only at k7
              cases e2 : xs[j]? with
              | none => rw [e2] at k7; cases k7
              | some y =>
                rw [e2] at k7
                cases k7
                obtain ⟨v, hw, ry⟩ := k6.getD e2
                exact ⟨a, us, k, j, v, rfl, rfl, k4, z.1, z.2, by rw [k6.len]; exact e1, hw, chg_post n.rel k1 k2 hv k4 k5 (k6.eraseIdx j) ry k8⟩
          · rw [if_neg z] at k7; cases k7
        | _ => exact h1.elim
  · rw [if_neg hm] at h; exact h.elim
end

/-! ### x[i] = e at a list that changes -/
def setV (i : Nat) (k : Int) (y : D) (env : PEnv) : R Flow := match chgV i (fun xs => match ixN xs.length k with
    | some j => some (.d .none, xs.set j y)
    | none => none) env with
  | .ok _ env => .ok .nx env
  | _ => .stuck
def setS (i : Nat) (mk mv : PEnv → R Val) : PEnv → R Flow := fun env => (mv env).bindF fun rv env => if muAt env i = true then (mk env).bindF (fun rk env => match rv, rk with
  | .d y, .d (.int k) => setV i k y env
  | _, _ => .stuck) else .stuck
section
variable {X : Cx} {fa ca : Str → Addr} {E0 : L2.St → XK} {T : Ent}
theorem seqFS {C : Cfg} {σ : L2.St} {env : PEnv} {F H : Hp} {Z : Ends} {m : R Val} {f : Val → PEnv → R Flow} {Q' : VK} (loc : Loc C T σ env F H) (h : PostS C T E0 F Z (m.bindF f))
    (k : ∀ r env1 v F1 H1, Nx C.K C.fa σ env F H env1 F1 H1 → VRel C.K C.fa σ F1 v r → PostS C T E0 F1 Z (f r env1) → Q' v H1) : Post C E0 σ env F H m Q' := by
  cases m with
  | stuck => exact h
  | exc c x env1 => exact fun d F' H' n xr => h d σ F' H' (loc.nx n) n.adv.fz xr
  | ok r env1 =>
    intro v F1 H1 n p
    obtain ⟨F2, n2, vr⟩ := n.frz p loc.rel.nm
    exact k r.frz env1 v F2 H1 n2 vr (PostS.up h n2.adv.fz)
theorem tS_set {i : Nat} {x : Str} {ie e : Expr} {mk mv : PEnv → R Val} {p spos pos : Pos} (ho : PE X (.Name x p) (tVar i)) (hi : PE X ie (tR (Cf X fa ca) E0 mk)) (he : PE X e (tR (Cf X fa ca) E0 mv))
    (hg : PG X (.Subscript (.Name x p) ie spos) (gSub (tVar i) (tR (Cf X fa ca) E0 mk) rSetL))
    (hs : swapsWithSole [.Subscript (.Name x p) ie spos] e pos.line X.env = pure false := by rfl) (hw : swappedStores [.Subscript (.Name x p) ie spos] e X.env = pure none := by rfl) :
    PS X (.Assign [.Subscript (.Name x p) ie spos] e pos) (tS (Cf X fa ca) T E0 (setS i mk mv)) := by
  refine PS.weak (ps_asg he hg hs hw) fun Z σ H ⟨env, F, loc, h⟩ => ⟨env, F, loc.rel, seqFS loc h fun rv env1 v F1 H1 n vr h1 => ?_⟩
  -- the receiver, then the place
  have l1 := loc.nx n
  by_cases hmu : muAt env1 i = true
  · rw [if_pos hmu] at h1
    have key : ∃ w, σ[i]? = some (some w) ∧ Post (Cf X fa ca) E0 σ env1 F1 H1 (mk env1) (fun kv H2 => rSetL w kv v H2 fun H3 => Z.nx σ H3) := by
      obtain ⟨wa, wvs, hw, _⟩ := muAt_ok n.rel hmu
      refine ⟨_, hw, seqFS l1 h1 fun rk env2 kv F2 H2 n2 kr h2 => ?_⟩
      cases rv with
      | d y =>
        cases rk with
        | d kx =>
          cases kx with
          | int k =>
            cases (show Rp X.K F2 kv (.int k) from kr)
            have h2 : PostS (Cf X fa ca) T E0 F2 Z (setV i k y env2) := h2
            unfold setV chgV at h2
            cases e1 : env2[i]? with
            | none => rw [e1] at h2; exact h2.elim
            | some o =>
              cases o with
              | none => rw [e1] at h2; exact h2.elim
              | some s =>
                rw [e1] at h2
                dsimp only at h2
                cases hm : s.list? with
                | none => rw [hm] at h2; exact h2.elim
                | some xs =>
                  rw [hm] at h2
                  dsimp only at h2
                  cases ej : ixN xs.length k with
                  | none => rw [ej] at h2; exact h2.elim
                  | some j =>
                    rw [ej] at h2
                    obtain ⟨w', hw', hs'⟩ := n2.rel.at_ i s e1
                    obtain ⟨a, vs, rfl, g1, g2, g3⟩ := hs'.list hm
                    rw [hw] at hw'
                    cases hw'
                    have rv' := (show Rp X.K F1 v y from vr).up n2.adv.fz
                    have nn := n2.rel.putMu e1 hm hw g1 g2 (g3.set j rv')
                    exact ⟨_, vs, k, j, rfl, rfl, g1, by rw [g3.len]; exact ej, h2 σ F2 _ ((l1.nx n2).nx nn) (Evl.Ex.refl _)⟩
          | _ => exact h2.elim
        | _ => exact h2.elim
      | _ => cases rk <;> exact h2.elim
    obtain ⟨w, hw, hp⟩ := key
    exact ⟨w, hw, env1, F1, n.rel, hp⟩
  · rw [if_neg hmu] at h1; exact h1.elim
end
end Pi


set_option Elab.async false
set_option linter.all false
set_option maxRecDepth 100000
set_option autoImplicit false
/-! Pi12: built-ins, methods of texts -/
namespace Pi
open PySem PySem.Spec PyProof.Rows L2

inductive CtL (K : Kf) (F H : Hp) : List V → List D → Prop
  | nil : CtL K F H [] []
  | cons {v : V} {x : D} {vs : List V} {xs : List D} : Ct K F H v x → CtL K F H vs xs → CtL K F H (v :: vs) (x :: xs)
def rC (C : Cfg) (g : List D → Option Val) : List V → Hp → VK → Prop := fun vs H Q => ∃ σ env F ds res, Rel C.K C.fa F H env σ ∧ CtL C.K F H vs ds ∧ g ds = some res ∧ Post C (fun _ _ _ _ => True) σ env F H (.ok res env) Q
def conts (env : PEnv) : List Val → Option (List D)
  | [] => some []
  | r :: rs => match cont env r, conts env rs with
    | some x, some xs => some (x :: xs)
    | _, _ => none
def bltV (g : List D → Option Val) (rs : List Val) (env : PEnv) : R Val := match conts env rs with
  | some ds => match g ds with
    | some r => .ok r env
    | none => .stuck
  | none => .stuck
def bltE (g : List D → Option Val) (ms : PEnv → R (List Val)) : PEnv → R Val := fun env => (ms env).bind (bltV g)

def one (g : D → Option Val) : List D → Option Val
  | [x] => g x
  | _ => none
def two (g : D → D → Option Val) : List D → Option Val
  | [x, y] => g x y
  | _ => none
def lenD1 : D → Option Val
  | .str z => if z.length ≤ big then some (.d (.int z.length)) else none
  | .list xs => some (.d (.int xs.length))
  | .tuple xs => some (.d (.int xs.length))
  | _ => none
def lenD := one lenD1
def intD1 : D → Option Val
  | .int i => some (.d (.int i))
  | .bool b => some (.d (.int (if b then 1 else 0)))
  | _ => none
def intD := one intD1
def listD1 : D → Option Val
  | .list xs => some (.new xs)
  | .tuple xs => some (.new xs)
  | _ => none
def listD := one listD1
def tupleD1 : D → Option Val
  | .list xs => some (.d (.tuple xs))
  | .tuple xs => some (.d (.tuple xs))
  | _ => none
def tupleD := one tupleD1
def maxD2 : D → D → Option Val
  | .int i, .int j => some (.d (.int (if j > i then j else i)))
  | _, _ => none
def maxD := two maxD2
def minD2 : D → D → Option Val
  | .int i, .int j => some (.d (.int (if j < i then j else i)))
  | _, _ => none
def minD := two minD2
def absD1 : D → Option Val
  | .int i => some (.d (.int (if i < 0 then -i else i)))
  | _ => none
def absD := one absD1
def intsOf : List D → Option (List Int)
  | [] => some []
  | .int i :: ds => match intsOf ds with
    | some is => some (i :: is)
    | none => none
  | _ :: _ => none
def boolsOf : List D → Option (List Bool)
  | [] => some []
  | .bool i :: ds => match boolsOf ds with
    | some is => some (i :: is)
    | none => none
  | _ :: _ => none
def sumD1 : D → Option Val
  | .list xs => match intsOf xs with
    | some is => some (.d (.int is.sum))
    | none => none
  | _ => none
def sumD := one sumD1
def allD1 : D → Option Val
  | .list xs => match boolsOf xs with
    | some is => some (.d (.bool (is.all id)))
    | none => none
  | _ => none
def allD := one allD1
def anyD1 : D → Option Val
  | .list xs => match boolsOf xs with
    | some is => some (.d (.bool (is.any id)))
    | none => none
  | _ => none
def anyD := one anyD1
def reprD1 (x : D) : Option Val := if noDict x = true ∧ x.showable = true ∧ x.shown.length ≤ big ∧ x.depth ≤ 100 then some (.d (.str x.shown)) else none
def reprD := one reprD1
def strD1 : D → Option Val
  | .int i => if i.natAbs.log2 < 1920 then some (.d (.str (toString i))) else none
  | _ => none
def strD := one strD1

section
variable {X : Cx} {fa ca : Str → Addr} {E0 : L2.St → XK}
theorem conts_ok {C : Cfg} {σ : L2.St} {env : PEnv} {F H : Hp} (rel : Rel C.K C.fa F H env σ) : ∀ {vs : List V} {rs : List Val} {ds : List D}, VRelA C.K C.fa σ F vs rs → conts env rs = some ds → CtL C.K F H vs ds := by
  intro vs rs ds h
  induction h generalizing ds with
  | nil => intro e; cases e; exact .nil
  | @cons v vs r rs a _ ih =>
    intro e
    unfold conts at e
    cases e1 : cont env r with
    | none => rw [e1] at e; cases e
    | some x =>
      cases e2 : conts env rs with
      | none => rw [e1, e2] at e; cases e
      | some xs =>
        rw [e1, e2] at e
        cases e
        exact .cons (cont_ct rel a e1) (ih e2)
theorem blt_weak {g : List D → Option Val} {ms : PEnv → R (List Val)} {σ : L2.St} {H : Hp} {Q : VK} (h : tR (Cf X fa ca) E0 (bltE g ms) σ H Q) : tCB (rC (Cf X fa ca) g) (tRA (Cf X fa ca) E0 ms) σ H Q := by
  obtain ⟨env, F, rel, h⟩ := h
  refine ⟨env, F, rel, seqLE h fun rs env1 vs F1 H1 n vrs h1 => ?_⟩
  unfold bltV at h1
  cases ec : conts env1 rs with
  | none => rw [ec] at h1; exact h1.elim
  | some ds =>
    rw [ec] at h1
    dsimp only at h1
    cases eg : g ds with
    | none => rw [eg] at h1; exact h1.elim
    | some r =>
      rw [eg] at h1
      exact ⟨σ, env1, F1, ds, r, n.rel, conts_ok n.rel vrs ec, eg, h1⟩
theorem e_blt {g : List D → Option Val} {id : String} {x : Str} {e : Expr} {es : List Expr} {ms : PEnv → R (List Val)} {p pos : Pos} (hc : CallR X (.builtin id) (rC (Cf X fa ca) g)) (hg : Gl X x) (hm : X.mg x = none) (hv : bootBuiltins x = some (.builtin id))
    (ha : PA X (e :: es) (tRA (Cf X fa ca) E0 ms)) (hn : x ≠ "__name__" := by decide) (hdb : (x == ("__debug__" : Str)) = false := by decide)
    (he : starEach (e :: es) X.env = (false, eval e X.env) :: starEach es X.env := by rfl) (hpl : (backTo pos (starEach es X.env)).any (·.1) = false := by rfl) : PE X (.Call (.Name x p) (e :: es) [] pos) (tR (Cf X fa ca) E0 (bltE g ms)) :=
  PE.weak (pe_callB hc hg hm hv ha hn hdb he hpl) fun σ H Q h => blt_weak h
theorem e_bty {g : List D → Option Val} {id : String} {x : Str} {e : Expr} {es : List Expr} {ms : PEnv → R (List Val)} {p pos : Pos} (hc : CallR X (.type id) (rC (Cf X fa ca) g)) (hg : Gl X x) (hm : X.mg x = none) (hv : bootBuiltins x = some (.type id))
    (ha : PA X (e :: es) (tRA (Cf X fa ca) E0 ms)) (hn : x ≠ "__name__" := by decide) (hdb : (x == ("__debug__" : Str)) = false := by decide)
    (he : starEach (e :: es) X.env = (false, eval e X.env) :: starEach es X.env := by rfl) (hpl : (backTo pos (starEach es X.env)).any (·.1) = false := by rfl) : PE X (.Call (.Name x p) (e :: es) [] pos) (tR (Cf X fa ca) E0 (bltE g ms)) :=
  PE.weak (pe_callTy hc hg hm hv ha hn hdb he hpl) fun σ H Q h => blt_weak h

theorem c_len : CallR X (.builtin "len") (rC (Cf X fa ca) lenD) := by
  intro pins s σ H xs us Q I r h
  obtain ⟨τ, env, F, ds, res, rel, ct, g, q⟩ := h
  match ds, ct, g with
  | [x], .cons cx .nil, g =>
    cases x with
    | str z =>
      cases cx.str
      have g : (if z.length ≤ big then some (Val.d (.int z.length)) else none) = some res := g
      by_cases hz : z.length ≤ big
      · rw [if_pos hz] at g; cases g
        exact call_len pins s σ H _ us Q I r ⟨_, _, rfl, ⟨big_line hz, rfl⟩, q.here rel (.int _)⟩
      · rw [if_neg hz] at g; cases g
    | list zs =>
      obtain ⟨a, vs, rfl, sa, ra⟩ := cx.list
      cases g
      refine call_len pins s σ H _ us Q I r ⟨_, _, rfl, .inl ⟨vs, sa, rfl⟩, ?_⟩
      rw [ra.len]
      exact q.here rel (.int _)
    | tuple zs =>
      obtain ⟨a, vs, rfl, sa, ra, _⟩ := cx.tup
      cases g
      refine call_len pins s σ H _ us Q I r ⟨_, _, rfl, .inr ⟨vs, sa, rfl⟩, ?_⟩
      rw [ra.len]
      exact q.here rel (.int _)
    | _ => cases g
  | [], .nil, g => cases g
  | _ :: _ :: _, .cons _ (.cons _ _), g => cases g
theorem c_int : CallR X (.type "int") (rC (Cf X fa ca) intD) := by
  intro pins s σ H xs us Q I r h
  obtain ⟨τ, env, F, ds, res, rel, ct, g, q⟩ := h
  match ds, ct, g with
  | [x], .cons cx .nil, g =>
    cases x with
    | int i =>
      cases cx.int
      cases g
      exact call_int1 pins s σ H _ us Q I r (.inl ⟨i, rfl, q.here rel (.int _)⟩)
    | bool b =>
      cases cx.bool
      cases g
      exact call_int1 pins s σ H _ us Q I r (.inr ⟨b, rfl, q.here rel (.int _)⟩)
    | _ => cases g
  | [], .nil, g => cases g
  | _ :: _ :: _, .cons _ (.cons _ _), g => cases g
theorem c_list : CallR X (.type "list") (rC (Cf X fa ca) listD) := by
  intro pins s σ H xs us Q I r h
  obtain ⟨τ, env, F, ds, res, rel, ct, g, q⟩ := h
  match ds, ct, g with
  | [x], .cons cx .nil, g =>
    cases x with
    | list zs =>
      obtain ⟨a, vs, rfl, sa, ra⟩ := cx.list
      cases g
      exact call_list_of pins s σ H _ us Q I r ⟨a, vs, rfl, .inl sa, fun p hp => q.newList rel ra hp⟩
    | tuple zs =>
      obtain ⟨a, vs, rfl, sa, ra, _⟩ := cx.tup
      cases g
      exact call_list_of pins s σ H _ us Q I r ⟨a, vs, rfl, .inr sa, fun p hp => q.newList rel ra hp⟩
    | _ => cases g
  | [], .nil, g => cases g
  | _ :: _ :: _, .cons _ (.cons _ _), g => cases g
theorem c_tuple : CallR X (.type "tuple") (rC (Cf X fa ca) tupleD) := by
  intro pins s σ H xs us Q I r h
  obtain ⟨τ, env, F, ds, res, rel, ct, g, q⟩ := h
  match ds, ct, g with
  | [x], .cons cx .nil, g =>
    cases x with
    | list zs =>
      obtain ⟨a, vs, rfl, sa, ra⟩ := cx.list
      cases g
      exact call_tuple_of pins s σ H _ us Q I r ⟨a, vs, rfl, .inl ⟨sa, fun p hp => q.newTup rel ra hp⟩⟩
    | tuple zs =>
      obtain ⟨a, vs, rfl, sa, ra, st⟩ := cx.tup
      cases g
      exact call_tuple_of pins s σ H _ us Q I r ⟨a, vs, rfl, .inr ⟨sa, q.here rel (Rp.tup st ra)⟩⟩
    | _ => cases g
  | [], .nil, g => cases g
  | _ :: _ :: _, .cons _ (.cons _ _), g => cases g
theorem c_max (hc : X.calm = true) : CallR X (.builtin "max") (rC (Cf X fa ca) maxD) := by
  intro pins s σ H xs us Q I r h
  obtain ⟨τ, env, F, ds, res, rel, ct, g, q⟩ := h
  match ds, ct, g with
  | [x, y], .cons cx (.cons cy .nil), g =>
    cases x with
    | int i =>
      cases y with
      | int j =>
        cases cx.int
        cases cy.int
        cases g
        exact call_max2 hc pins s σ H _ us Q I r ⟨i, j, rfl, q.here rel (.int _)⟩
      | _ => cases g
    | _ => cases g
  | [], .nil, g => cases g
  | [_], .cons _ .nil, g => cases g
  | _ :: _ :: _ :: _, .cons _ (.cons _ (.cons _ _)), g => cases g
theorem c_min (hc : X.calm = true) : CallR X (.builtin "min") (rC (Cf X fa ca) minD) := by
  intro pins s σ H xs us Q I r h
  obtain ⟨τ, env, F, ds, res, rel, ct, g, q⟩ := h
  match ds, ct, g with
  | [x, y], .cons cx (.cons cy .nil), g =>
    cases x with
    | int i =>
      cases y with
      | int j =>
        cases cx.int
        cases cy.int
        cases g
        exact call_min2 hc pins s σ H _ us Q I r ⟨i, j, rfl, q.here rel (.int _)⟩
      | _ => cases g
    | _ => cases g
  | [], .nil, g => cases g
  | [_], .cons _ .nil, g => cases g
  | _ :: _ :: _ :: _, .cons _ (.cons _ (.cons _ _)), g => cases g
theorem ints_ok {K : Kf} {F : Hp} : ∀ {xs : List D} {is : List Int} {vs : List V}, intsOf xs = some is → RpA K F vs xs → vs = is.map V.int
  | [], _, _, e, h => by cases e; cases h; rfl
  | .int i :: xs, is, _, e, h => by
    have e : (match intsOf xs with | some is => some (i :: is) | none => none) = some is := e
    cases q : intsOf xs with
    | none => rw [q] at e; cases e
    | some js =>
      rw [q] at e
      cases e
      cases h with
      | cons a b => cases a; rw [ints_ok q b]; rfl
  | .none :: _, _, _, e, _ => by cases e
  | .bool _ :: _, _, _, e, _ => by cases e
  | .str _ :: _, _, _, e, _ => by cases e
  | .list _ :: _, _, _, e, _ => by cases e
  | .tuple _ :: _, _, _, e, _ => by cases e
  | .dict _ :: _, _, _, e, _ => by cases e
theorem bools_ok {K : Kf} {F : Hp} : ∀ {xs : List D} {is : List Bool} {vs : List V}, boolsOf xs = some is → RpA K F vs xs → vs = is.map V.bl
  | [], _, _, e, h => by cases e; cases h; rfl
  | .bool i :: xs, is, _, e, h => by
    have e : (match boolsOf xs with | some is => some (i :: is) | none => none) = some is := e
    cases q : boolsOf xs with
    | none => rw [q] at e; cases e
    | some js =>
      rw [q] at e
      cases e
      cases h with
      | cons a b => cases a; rw [bools_ok q b]; rfl
  | .none :: _, _, _, e, _ => by cases e
  | .int _ :: _, _, _, e, _ => by cases e
  | .str _ :: _, _, _, e, _ => by cases e
  | .list _ :: _, _, _, e, _ => by cases e
  | .tuple _ :: _, _, _, e, _ => by cases e
  | .dict _ :: _, _, _, e, _ => by cases e
theorem c_sum (hc : X.calm = true) : CallR X (.builtin "sum") (rC (Cf X fa ca) sumD) := by
  intro pins s σ H xs us Q I r h
  obtain ⟨τ, env, F, ds, res, rel, ct, g, q⟩ := h
  match ds, ct, g with
  | [x], .cons cx .nil, g =>
    cases x with
    | list zs =>
      obtain ⟨a, vs, rfl, sa, ra⟩ := cx.list
      have g : (match intsOf zs with | some is => some (Val.d (.int is.sum)) | none => none) = some res := g
      cases e : intsOf zs with
      | none => rw [e] at g; cases g
      | some is =>
        rw [e] at g
        cases g
        cases ints_ok e ra
        exact cr_sum hc pins s σ H _ us Q I r ⟨a, is, rfl, sa, q.here rel (.int _)⟩
    | _ => cases g
  | [], .nil, g => cases g
  | _ :: _ :: _, .cons _ (.cons _ _), g => cases g
theorem c_all (hc : X.calm = true) : CallR X (.builtin "all") (rC (Cf X fa ca) allD) := by
  intro pins s σ H xs us Q I r h
  obtain ⟨τ, env, F, ds, res, rel, ct, g, q⟩ := h
  match ds, ct, g with
  | [x], .cons cx .nil, g =>
    cases x with
    | list zs =>
      obtain ⟨a, vs, rfl, sa, ra⟩ := cx.list
      have g : (match boolsOf zs with | some is => some (Val.d (.bool (is.all id))) | none => none) = some res := g
      cases e : boolsOf zs with
      | none => rw [e] at g; cases g
      | some is =>
        rw [e] at g
        cases g
        cases bools_ok e ra
        exact cr_all hc pins s σ H _ us Q I r ⟨a, is, rfl, sa, q.here rel (.bl _)⟩
    | _ => cases g
  | [], .nil, g => cases g
  | _ :: _ :: _, .cons _ (.cons _ _), g => cases g
theorem c_any (hc : X.calm = true) : CallR X (.builtin "any") (rC (Cf X fa ca) anyD) := by
  intro pins s σ H xs us Q I r h
  obtain ⟨τ, env, F, ds, res, rel, ct, g, q⟩ := h
  match ds, ct, g with
  | [x], .cons cx .nil, g =>
    cases x with
    | list zs =>
      obtain ⟨a, vs, rfl, sa, ra⟩ := cx.list
      have g : (match boolsOf zs with | some is => some (Val.d (.bool (is.any id))) | none => none) = some res := g
      cases e : boolsOf zs with
      | none => rw [e] at g; cases g
      | some is =>
        rw [e] at g
        cases g
        cases bools_ok e ra
        exact cr_any hc pins s σ H _ us Q I r ⟨a, is, rfl, sa, q.here rel (.bl _)⟩
    | _ => cases g
  | [], .nil, g => cases g
  | _ :: _ :: _, .cons _ (.cons _ _), g => cases g
mutual
theorem noDict_has : ∀ (d : D), noDict d = true → d.hasDict = false
  | .none, _ => by simp only [PyData.hasDict]
  | .bool _, _ => by simp only [PyData.hasDict]
  | .int _, _ => by simp only [PyData.hasDict]
  | .str _, _ => by simp only [PyData.hasDict]
  | .list xs, h => by simp only [PyData.hasDict]; exact noDict_hasA xs (by simpa [noDict] using h)
  | .tuple xs, h => by simp only [PyData.hasDict]; exact noDict_hasA xs (by simpa [noDict] using h)
  | .dict _, h => by simp [noDict] at h
theorem noDict_hasA : ∀ (ds : List D), noDictA ds = true → PyData.hasDictAll ds = false
  | [], _ => by simp only [PyData.hasDictAll]
  | d :: ds, h => by
    have h' : noDict d = true ∧ noDictA ds = true := by simpa [noDictA] using h
    simp [PyData.hasDictAll, noDict_has d h'.1, noDict_hasA ds h'.2]
end
theorem c_repr (hu : X.A.units + 110 < cLine) (hgd : X.A.guards = some []) : CallR X (.builtin "repr") (rC (Cf X fa ca) reprD) := by
  intro pins s σ H xs us Q I r h
  obtain ⟨τ, env, F, ds, res, rel, ct, g, q⟩ := h
  match ds, ct, g with
  | [x], .cons cx .nil, g =>
    have g : (if noDict x = true ∧ x.showable = true ∧ x.shown.length ≤ big ∧ x.depth ≤ 100 then some (Val.d (.str x.shown)) else none) = some res := g
    by_cases hz : noDict x = true ∧ x.showable = true ∧ x.shown.length ≤ big ∧ x.depth ≤ 100
    · rw [if_pos hz] at g
      cases g
      obtain ⟨u, rfl, ru⟩ := vals1 r
      have dp := Rp.dp x _ hz.1 cx.rp
      obtain ⟨as, rd⟩ := Dp.reads I x _ u dp ru
      have fin : ∀ h' u' tk, (∀ b o, s.heap.get? b = some o → h'.get? b = some o) → EP X pins σ Q (.str x.shown u') { s with heap := h', toks := tk } :=
        fun h' u' tk hk => ⟨.str x.shown, H, I.kept hk, ⟨_, rfl⟩, q.here rel (.str _)⟩
      cases rd with
      | none => exact PySem.P.repr_of_none (fin s.heap _ _ fun _ _ e => e)
      | bool b => exact PySem.P.repr_of_bool (by have := fin s.heap s.toks (s.toks + 1) fun _ _ e => e; cases b <;> exact this)
      | int i t => exact PySem.P.repr_of_int (by simpa [PyData.showable] using hz.2.1) (fin s.heap _ _ fun _ _ e => e)
      | str z t => exact PySem.P.repr_of_str (fin s.heap _ _ fun _ _ e => e) (big_line hz.2.2.1)
      | list h1 h2 h3 h4 => exact repr_of_reads' (Reads.list h1 h2 h3 h4) hz.2.1 (PyData.noDict_hsm (noDict_has _ hz.1)) hgd (by have := hz.2.2.2; omega) (fun _ _ e => e) (fun h' u' tk hk => fin h' u' tk hk) (big_line hz.2.2.1)
      | tuple h1 h2 h3 h4 => exact repr_of_reads' (Reads.tuple h1 h2 h3 h4) hz.2.1 (PyData.noDict_hsm (noDict_has _ hz.1)) hgd (by have := hz.2.2.2; omega) (fun _ _ e => e) (fun h' u' tk hk => fin h' u' tk hk) (big_line hz.2.2.1)
      | dict _ _ _ _ _ => simp [noDict] at hz
    · rw [if_neg hz] at g; cases g
  | [], .nil, g => cases g
  | _ :: _ :: _, .cons _ (.cons _ _), g => cases g
theorem c_str : CallR X (.type "str") (rC (Cf X fa ca) strD) := by
  intro pins s σ H xs us Q I r h
  obtain ⟨τ, env, F, ds, res, rel, ct, g, q⟩ := h
  match ds, ct, g with
  | [x], .cons cx .nil, g =>
    cases x with
    | int i =>
      cases cx.int
      have g : (if i.natAbs.log2 < 1920 then some (Val.d (.str (toString i))) else none) = some res := g
      by_cases hz : i.natAbs.log2 < 1920
      · rw [if_pos hz] at g; cases g
        exact call_str_int pins s σ H _ us Q I r ⟨i, rfl, hz, q.here rel (.str _)⟩
      · rw [if_neg hz] at g; cases g
    | _ => cases g
  | [], .nil, g => cases g
  | _ :: _ :: _, .cons _ (.cons _ _), g => cases g
theorem c_abs : CallR X (.builtin "abs") (rC (Cf X fa ca) absD) := by
  intro pins s σ H xs us Q I r h
  obtain ⟨τ, env, F, ds, res, rel, ct, g, q⟩ := h
  match ds, ct, g with
  | [x], .cons cx .nil, g =>
    cases x with
    | int i =>
      cases cx.int
      cases g
      exact call_abs pins s σ H _ us Q I r ⟨i, rfl, q.here rel (.int _)⟩
    | _ => cases g
  | [], .nil, g => cases g
  | _ :: _ :: _, .cons _ (.cons _ _), g => cases g
end
end Pi


set_option Elab.async false
set_option linter.all false
set_option maxRecDepth 100000
set_option autoImplicit false
/-! Pi13: methods of texts without arguments, isinstance, chains, bit_length, list * int -/
namespace Pi
open PySem PySem.Spec PyProof.Rows L2

section
variable {X : Cx} {fa ca : Str → Addr} {E0 : L2.St → XK}
/-! ### methods of texts -/
/-- a method's reading by its table -/
def rM0 (C : Cfg) (g : D → Option Val) : V → List V → Hp → VK → Prop := fun x xs H Q => xs = [] ∧ r1 C g x H Q
def isasciiD : D → Option Val
  | .str z => some (.d (.bool (Txt.isascii z)))
  | _ => none
def isalnumD : D → Option Val
  | .str z => some (.d (.bool (Txt.isalnum z)))
  | _ => none
def isalphaD : D → Option Val
  | .str z => some (.d (.bool (Txt.isalpha z)))
  | _ => none
def lowerD : D → Option Val
  | .str z => if z.length ≤ big then some (.d (.str (Txt.lower z))) else none
  | _ => none
theorem mD_isascii : MtR X "str.isascii" (rM0 (Cf X fa ca) isasciiD) := by
  intro pins s σ H x xs v us Q I rx rs h
  obtain ⟨rfl, τ, env, F, dx, res, rel, cx, g, q⟩ := h
  cases dx with
  | str z =>
    cases cx.str
    cases g
    exact mt_isascii pins s σ H _ _ v us Q I rx rs ⟨z, rfl, rfl, trivial, q.here rel (.bl _)⟩
  | _ => cases g
theorem mD_isalnum : MtR X "str.isalnum" (rM0 (Cf X fa ca) isalnumD) := by
  intro pins s σ H x xs v us Q I rx rs h
  obtain ⟨rfl, τ, env, F, dx, res, rel, cx, g, q⟩ := h
  cases dx with
  | str z =>
    cases cx.str
    cases g
    exact mt_isalnum pins s σ H _ _ v us Q I rx rs ⟨z, rfl, rfl, trivial, q.here rel (.bl _)⟩
  | _ => cases g
theorem mD_isalpha : MtR X "str.isalpha" (rM0 (Cf X fa ca) isalphaD) := by
  intro pins s σ H x xs v us Q I rx rs h
  obtain ⟨rfl, τ, env, F, dx, res, rel, cx, g, q⟩ := h
  cases dx with
  | str z =>
    cases cx.str
    cases g
    exact mt_isalpha pins s σ H _ _ v us Q I rx rs ⟨z, rfl, rfl, trivial, q.here rel (.bl _)⟩
  | _ => cases g
theorem mD_lower : MtR X "str.lower" (rM0 (Cf X fa ca) lowerD) := by
  intro pins s σ H x xs v us Q I rx rs h
  obtain ⟨rfl, τ, env, F, dx, res, rel, cx, g, q⟩ := h
  cases dx with
  | str z =>
    cases cx.str
    have g : (if z.length ≤ big then some (Val.d (.str (Txt.lower z))) else none) = some res := g
    by_cases hz : z.length ≤ big
    · rw [if_pos hz] at g
      cases g
      exact mt_lower pins s σ H _ _ v us Q I rx rs ⟨z, rfl, rfl, Nat.le_trans hz (by decide), q.here rel (.str _)⟩
    · rw [if_neg hz] at g; cases g
  | _ => cases g
/-- only texts -/
def strOnly (g : D → Option Val) : Prop := ∀ x r, g x = some r → ∃ z, x = .str z
theorem e_sm0 {g : D → Option Val} {o : Expr} {m : PEnv → R Val} {name : Str} {id : String} {apos cpos : Pos} (slot : PySem.Slot "str" name id) (hty : typeOf (.builtin id) = pure (.type "method_descriptor")) (hm : MtR X id (rM0 (Cf X fa ca) g)) (hg : strOnly g)
    (ho : PE X o (tR (Cf X fa ca) E0 m)) (hbase : attributeBase o name X.env (eval o X.env) = eval o X.env := by rfl) (hline : (apos.endLine == cpos.line) = true := by rfl) :
    PE X (.Call (.Attribute o name apos) [] [] cpos) (tR (Cf X fa ca) E0 (unE g m)) := by
  refine PE.weak (pe_bm0 PySem.F.plainAttrs_str slot hty hm ho hbase hline) fun σ H Q ⟨env, F, rel, h⟩ => ?_
  refine ⟨env, F, rel, seqE rel h fun r env1 v F1 H1 n vr h1 => ?_⟩
  have h2 := unV_ok n.rel vr h1
  refine ⟨?_, rfl, h2⟩
  obtain ⟨_, _, _, dx, res, _, cx, eg, _⟩ := h2
  obtain ⟨z, rfl⟩ := hg dx res eg
  cases cx.str
  rfl
theorem so_isascii : strOnly isasciiD := fun x r h => by cases x <;> first | exact ⟨_, rfl⟩ | cases h
theorem so_isalnum : strOnly isalnumD := fun x r h => by cases x <;> first | exact ⟨_, rfl⟩ | cases h
theorem so_isalpha : strOnly isalphaD := fun x r h => by cases x <;> first | exact ⟨_, rfl⟩ | cases h
theorem so_lower : strOnly lowerD := fun x r h => by cases x <;> first | exact ⟨_, rfl⟩ | cases h
theorem e_isascii {o : Expr} {m : PEnv → R Val} {apos cpos : Pos} (ho : PE X o (tR (Cf X fa ca) E0 m)) (hbase : attributeBase o "isascii" X.env (eval o X.env) = eval o X.env := by rfl) (hline : (apos.endLine == cpos.line) = true := by rfl) :
    PE X (.Call (.Attribute o "isascii" apos) [] [] cpos) (tR (Cf X fa ca) E0 (unE isasciiD m)) := e_sm0 PySem.F.slot_str_isascii PySem.F.type_str_isascii mD_isascii so_isascii ho hbase hline
theorem e_isalnum {o : Expr} {m : PEnv → R Val} {apos cpos : Pos} (ho : PE X o (tR (Cf X fa ca) E0 m)) (hbase : attributeBase o "isalnum" X.env (eval o X.env) = eval o X.env := by rfl) (hline : (apos.endLine == cpos.line) = true := by rfl) :
    PE X (.Call (.Attribute o "isalnum" apos) [] [] cpos) (tR (Cf X fa ca) E0 (unE isalnumD m)) := e_sm0 PySem.F.slot_str_isalnum PySem.F.type_str_isalnum mD_isalnum so_isalnum ho hbase hline
theorem e_isalpha {o : Expr} {m : PEnv → R Val} {apos cpos : Pos} (ho : PE X o (tR (Cf X fa ca) E0 m)) (hbase : attributeBase o "isalpha" X.env (eval o X.env) = eval o X.env := by rfl) (hline : (apos.endLine == cpos.line) = true := by rfl) :
    PE X (.Call (.Attribute o "isalpha" apos) [] [] cpos) (tR (Cf X fa ca) E0 (unE isalphaD m)) := e_sm0 PySem.F.slot_str_isalpha PySem.F.type_str_isalpha mD_isalpha so_isalpha ho hbase hline
theorem e_lower {o : Expr} {m : PEnv → R Val} {apos cpos : Pos} (ho : PE X o (tR (Cf X fa ca) E0 m)) (hbase : attributeBase o "lower" X.env (eval o X.env) = eval o X.env := by rfl) (hline : (apos.endLine == cpos.line) = true := by rfl) :
    PE X (.Call (.Attribute o "lower" apos) [] [] cpos) (tR (Cf X fa ca) E0 (unE lowerD m)) := e_sm0 PySem.F.slot_str_lower PySem.F.type_str_lower mD_lower so_lower ho hbase hline
/-! ### bit_length -/
def bitsD : D → Option Val
  | .int i => some (.d (.int (Builtin.Int.intBits i : Nat)))
  | _ => none
theorem e_bits {o : Expr} {m : PEnv → R Val} {apos cpos : Pos} (ho : PE X o (tR (Cf X fa ca) E0 m)) (hbase : attributeBase o "bit_length" X.env (eval o X.env) = eval o X.env := by rfl) (hline : (apos.endLine == cpos.line) = true := by rfl) :
    PE X (.Call (.Attribute o "bit_length" apos) [] [] cpos) (tR (Cf X fa ca) E0 (unE bitsD m)) := by
  refine PE.weak (pe_bits ho hbase hline) fun σ H Q ⟨env, F, rel, h⟩ => ?_
  refine ⟨env, F, rel, seqE rel h fun r env1 v F1 H1 n vr h1 => ?_⟩
  obtain ⟨_, _, _, dx, res, rel2, cx, eg, q⟩ := unV_ok n.rel vr h1
  cases dx with
  | int i =>
    cases cx.int
    cases eg
    exact ⟨i, rfl, q.here rel2 (.int _)⟩
  | _ => cases eg
/-! ### isinstance -/
def tyD : D → String
  | .none => "NoneType"
  | .bool _ => "bool"
  | .int _ => "int"
  | .str _ => "str"
  | .list _ => "list"
  | .tuple _ => "tuple"
  | .dict _ => "dict"
def isiD (T : String) (x : D) : Option Val := match kitB (tyD x) T with
  | some b => some (.d (.bool b))
  | none => none
theorem Ct.ty {K : Kf} {F H : Hp} {v : V} {x : D} (h : Ct K F H v x) : TyX K H v (.type (tyD x)) := by
  rcases h with ⟨h, e⟩ | ⟨a, vs, ys, rfl, rfl, h2, h3, e⟩
  · cases h with
    | non => exact .base .non
    | bl b => exact .base (.bl b)
    | int i => exact .base (.int i)
    | str z => exact .base (.str z)
    | lst a b =>
      rcases a with (a | ⟨o, a⟩) | ⟨o, its, n, h1, h2, _⟩
      · exact .base (.lst (e _ _ a))
      · exact .base (.frz (e _ _ a))
      · exact .kList h1 h2
    | tup a b =>
      rcases a with (a | ⟨o, a⟩) | ⟨o, its, n, h1, h2, _⟩
      · exact .base (.tup (e _ _ a))
      · exact .fTuple (e _ _ a)
      · exact .kTuple h1 h2
    | dic a b => exact .base (.dK (e _ _ a))
  · exact .base (.lst h2)
theorem e_isi {e : Expr} {m : PEnv → R Val} {T : Str} {n : String} {p p2 pos : Pos} (hg : Gl X "isinstance") (hm : X.mg "isinstance" = none) (hgT : Gl X T) (hmT : X.mg T = none) (hT : bootBuiltins T = some (.type n)) (he : PE X e (tR (Cf X fa ca) E0 m))
    (hd : (T == ("__debug__" : Str)) = false := by decide) (hn : T ≠ "__name__" := by decide)
    (hs : starEach [e, .Name T p2] X.env = (false, eval e X.env) :: starEach [.Name T p2] X.env := by rfl) (hs2 : starEach [.Name T p2] X.env = (false, eval (.Name T p2) X.env) :: starEach [] X.env := by rfl) (hpl : (backTo pos (starEach [.Name T p2] X.env)).any (·.1) = false := by rfl) :
    PE X (.Call (.Name "isinstance" p) [e, .Name T p2] [] pos) (tR (Cf X fa ca) E0 (unE (isiD n) m)) := by
  refine PE.weak (pe_callB call_isi hg hm rfl (pa_cons he (pa_cons (pe_bltn (v := .ty n) hgT hmT hT rfl hn hd) pa_nil hs2) hs) (by decide) (by decide) hs hpl) fun σ H Q ⟨env, F, rel, h⟩ => ?_
  refine ⟨env, F, rel, seqE rel h fun r env1 v F1 H1 n1 vr h1 => ?_⟩
  obtain ⟨_, _, _, dx, res, rel2, cx, eg, q⟩ := unV_ok n1.rel vr h1
  unfold isiD at eg
  cases ek : kitB (tyD dx) n with
  | none => rw [ek] at eg; cases eg
  | some b =>
    rw [ek] at eg
    cases eg
    exact ⟨v, .ty n, _, _, b, rfl, .ty n, cx.ty, kit_ty ek, q.here rel2 (.bl _)⟩
/-! ### chains -/
theorem chain_weak {g g' : D → D → Option Val} {ma mb mc : PEnv → R Val} {σ : L2.St} {H : Hp} {Q : VK} (h : tR (Cf X fa ca) E0 (chainE g g' ma mb mc) σ H Q) :
    tChain (r2 (Cf X fa ca) g) (r2 (Cf X fa ca) g') (tR (Cf X fa ca) E0 ma) (tR (Cf X fa ca) E0 mb) (tR (Cf X fa ca) E0 mc) σ H Q := by
  obtain ⟨env, F, rel, h⟩ := h
  refine ⟨env, F, rel, seqE rel h fun ra env1 v F1 H1 n vr h1 => ⟨env1, F1, n.rel, seqE n.rel h1 fun rb env2 w F2 H2 n2 wr h2 => ?_⟩⟩
  unfold opV at h2
  cases ea : cont env2 ra with
  | none => rw [ea] at h2; exact h2.elim
  | some x =>
    cases eb : cont env2 rb with
    | none => rw [ea, eb] at h2; exact h2.elim
    | some y =>
      rw [ea, eb] at h2
      dsimp only at h2
      cases eg : g x y with
      | none => rw [eg] at h2; exact h2.elim
      | some r =>
        rw [eg] at h2
        refine ⟨σ, env2, F2, x, y, r, n2.rel, cont_ct n2.rel (vr.up n2.adv.fz) ea, cont_ct n2.rel wr eb, eg, ?_⟩
        intro v' F' H' n3 p
        obtain ⟨F4, n4, vr4⟩ := n3.frz p n2.rel.nm
        have h3 : Post (Cf X fa ca) E0 σ env2 F2 H2 (match r.frz with
          | .d (.bool true) => (mc env2).bindF fun rc env => opV g' rb rc env
          | .d (.bool false) => .ok (.d (.bool false)) env2
          | _ => .stuck) Q := h2
        revert h3 vr4
        cases r.frz with
        | own i => exact fun _ h3 => h3.elim
        | new xs => exact fun _ h3 => h3.elim
        | fn f => exact fun _ h3 => h3.elim
        | d z =>
          cases z with
          | bool b =>
            intro vr4 h3
            cases (show Rp X.K F4 v' (.bool b) from vr4)
            refine ⟨b, rfl, ?_⟩
            have h3 := Post.later n4 h3
            cases b with
            | false => exact h3.here n4.rel (Rp.bl false)
            | true => exact ⟨env2, F4, n4.rel, seqE n4.rel h3 fun rc env5 w5 F5 H5 n5 w5r h5 => opV_ok n5.rel (wr.up (n4.adv.fz.trans n5.adv.fz)) w5r h5⟩
          | _ => exact fun _ h3 => h3.elim
theorem e_chain {op op' : CmpOp} {g g' : D → D → Option Val} {a b c : Expr} {ma mb mc : PEnv → R Val} {pos : Pos} (ho : OpR X (compareOp op) (r2 (Cf X fa ca) g)) (ho' : OpR X (compareOp op') (r2 (Cf X fa ca) g')) (ha : PE X a (tR (Cf X fa ca) E0 ma)) (hb : PE X b (tR (Cf X fa ca) E0 mb)) (hc : PE X c (tR (Cf X fa ca) E0 mc))
    (hm : lastMarks [op, op'] [b, c] = false := by with_unfolding_all rfl) : PE X (.Compare a [op, op'] [b, c] pos) (tR (Cf X fa ca) E0 (chainE g g' ma mb mc)) :=
  PE.weak (pe_chain ho ho' ha hb hc hm) fun σ H Q h => chain_weak h
theorem t_chain {op op' : CmpOp} {g g' : D → D → Option Val} {a b c : Expr} {ma mb mc : PEnv → R Val} {pos : Pos} (ho : OpR X (compareOp op) (r2 (Cf X fa ca) g)) (ho' : OpR X (compareOp op') (r2 (Cf X fa ca) g')) (ha : PE X a (tR (Cf X fa ca) E0 ma)) (hb : PE X b (tR (Cf X fa ca) E0 mb)) (hc : PE X c (tR (Cf X fa ca) E0 mc))
    (hm : lastMarks [op, op'] [b, c] = false := by with_unfolding_all rfl) : PT X (.Compare a [op, op'] [b, c] pos) (tRT (Cf X fa ca) E0 (boolT (chainE g g' ma mb mc))) := by
  refine PT.weak (pt_chain ho ho' ha hb hc hm) fun σ H Q h => ?_
  obtain ⟨env, F, rel, h3⟩ := bool_weak h
  exact chain_weak ⟨env, F, rel, h3⟩
/-! ### list * int -/
theorem intRmulL (a : Int) (t : Tok) (l : Addr) (items : Array Value) (n : Nat) (dd : Option Addr) (sl : Array (Option Value)) :
    Meets (Builtin.«int.__rmul__» ⟨[.int a t, .ref l], []⟩) (fun _ R s => s.heap.get? l = some { cls := .type "list", dict := dd, data := .seq items n, slots := sl } ∧ R (.ok (.ret Value.notImplemented)) s) :=
  .of_wp fun prog w A R s h => by obtain ⟨hp, g, d, tk, os⟩ := s; obtain ⟨hl, h⟩ := h; wp_walk using wpAny_loadPart' hl; exact ⟨_, rfl, h⟩
theorem listMulW (l : Addr) (items : Array Value) (n : Nat) (dd : Option Addr) (sl : Array (Option Value)) (x : Int) (u : Tok) (hc0 : ¬(!Builtin.List.listFitsIndex x) = true) (hc1 : ¬items.size * x.toNat > (2 ^ 63 - 1) / 8) (hc2 : ¬Builtin.List.listTooLong (items.size * x.toNat) = true) :
    Meets (Builtin.«list.__mul__» ⟨[.ref l, .int x u], []⟩) (fun _ R s => s.heap.get? l = some { cls := .type "list", dict := dd, data := .seq items n, slots := sl } ∧ R (.ok (.ret (Value.ref s.heap.objs.size))) { s with heap := s.heap.push { cls := Value.type "list", data := Data.seq (List.foldl (fun x1 x2 => x1 ++ x2) #[] (List.replicate (if items.isEmpty = true then 0 else x.toNat) items)) }, toks := s.toks }) :=
  .of_wp fun prog w A R s h => by
    obtain ⟨hp, g, d, tk, os⟩ := s; obtain ⟨hl, h⟩ := h
    have hsz := AutoListH.joined_fits hc2
    wp_walk using wpAny_loadPart' hl; refine wpAny_ite_false (decide_eq_false (Nat.not_lt.mpr hsz)) ?_; wp_walk using wpAny_loadPart' hl; exact ⟨_, rfl, h⟩
def mulLD : D → D → Option Val
  | .list xs, .int k => if 0 ≤ k ∧ k ≤ 1000 ∧ xs.length ≤ 1000 then some (.new (List.replicate k.toNat xs).flatten) else none
  | _, _ => none
theorem op_mulLD : OpR X (binaryOp .Mult) (r2 (Cf X fa ca) mulLD) := by
  intro pins s σ H x y v u Q I rx ry h
  obtain ⟨τ, env, F, dx, dy, res, rel, cx, cy, g, q⟩ := h
  cases dx with
  | list xs =>
    cases dy with
    | int k =>
      cases cy.int
      obtain ⟨a, vs, rfl, sa, ra⟩ := cx.list
      have g : (if 0 ≤ k ∧ k ≤ 1000 ∧ xs.length ≤ 1000 then some (Val.new (List.replicate k.toNat xs).flatten) else none) = some res := g
      by_cases hz : 0 ≤ k ∧ k ≤ 1000 ∧ xs.length ≤ 1000
      · rw [if_pos hz] at g
        cases g
        obtain ⟨h0, h1, h2⟩ := hz
        cases rx
        obtain ⟨t, rfl⟩ := ry
        obtain ⟨its, rv, ⟨o, n, ho, hc, hd0, hd⟩, hsz⟩ := I.list sa
        have l1 := ra.len
        have l3 := rv.length
        obtain ⟨oc, od, ot, osl⟩ := o
        subst hc hd hd0
        have hk : k.toNat ≤ 1000 := by omega
        have hle : its.length * k.toNat ≤ 1000000 := by
          have : its.length ≤ 1000 := by omega
          calc its.length * k.toNat ≤ 1000 * 1000 := Nat.mul_le_mul this hk
            _ = 1000000 := rfl
        have hlen : its.toArray.size * k.toNat ≤ sizeLine := by rw [List.size_toArray]; exact big_line hle
        have hcap : ¬ its.toArray.size * k.toNat > (2 ^ 63 - 1) / 8 := by
          rw [List.size_toArray]
          have : (1000000 : Nat) ≤ (2 ^ 63 - 1) / 8 := by decide
          omega
        have hfit : ¬ (!Builtin.List.listFitsIndex k) = true := by
          rw [fitsIndex_both (by omega) (by omega)]
          exact Bool.false_ne_true
        have hlong : ¬ Builtin.List.listTooLong (its.toArray.size * k.toNat) = true := by
          rw [notLongL hlen]
          exact Bool.false_ne_true
        have hnew : List.foldl (fun x1 x2 => x1 ++ x2) #[] (List.replicate (if its.toArray.isEmpty = true then 0 else k.toNat) its.toArray) = (List.replicate k.toNat its).flatten.toArray := by
          have f0 : ∀ m : Nat, List.foldl (fun x1 x2 => x1 ++ x2) #[] (List.replicate m its.toArray) = (List.replicate m its).flatten.toArray := fun m => by
            have := foldl_rep its m []
            rw [List.nil_append] at this
            exact this
          rw [f0]
          cases its with
          | nil => simp
          | cons a r' => rw [if_neg (by simp)]
        refine wpAny_binaryOp_repeat_ref (T := "list") (U := "int") (by decide) ⟨_, ho, rfl⟩ (fun s' => typeIs_int s' k t) noFill_list_mul PySem.F.fills_int_mul PySem.F.slot_int_rmul repeat_list PySem.F.slot_int_index.lookup
          (call_meets PySem.F.slot_int_rmul (typeIs_int s k t) PySem.F.entry_int_rmul (PySem.F.args_int_rmul_2 _ _) (intRmulL k t a its.toArray n none osl)
            ⟨?_, rfl, ⟨_, ho, rfl⟩, call_meets PySem.F.slot_list_mul ⟨_, ho, rfl⟩ PySem.F.entry_list_mul (PySem.F.args_list_mul_2 _ _) (listMulW a its.toArray n none osl k t hfit hcap hlong) ⟨?_, ?_⟩⟩)
        · exact ho
        · exact ho
        · rw [hnew]
          exact ⟨.ref _, _, I.lnew (t' := s.toks) (rv.rep k.toNat) (by rw [PyProof.Rows.lm_len_rep_flat, Nat.mul_comm, l3]; exact big_line hle), rfl, q.newList rel (ra.rep k.toNat) I.fresh⟩
      · rw [if_neg hz] at g; cases g
    | _ => cases g
  | _ => cases g
end
end Pi


set_option Elab.async false
set_option linter.all false
set_option maxRecDepth 100000
set_option autoImplicit false
/-! Pi14: sets of keys, dicts as data, tables of the module -/
namespace Pi
open PySem PySem.Spec PyProof.Rows L2

/-! ### keys -/
def dKey : D → Option Key
  | .int i => some (.inl i)
  | .str x => some (.inr x)
  | _ => none
theorem dKey_v {K : Kf} {F : Hp} {v : V} {x : D} {k : Key} (h : dKey x = some k) (r : Rp K F v x) : v = kV k := by
  cases x with
  | int i => cases h; cases r; rfl
  | str z => cases h; cases r; rfl
  | _ => cases h
theorem dKey_keyD (k : Key) : dKey (keyD k) = some k := by cases k <;> rfl

/-! ### sets -/
def hasK (ks : List Key) (k : Key) : Bool := ks.any fun j => decide (j = k)
def set0S (i : Nat) : PEnv → R Flow := fun env => match env[i]? with
  | none => .stuck
  | some (some (.bor _)) => .stuck
  | _ => .ok .nx (env.set i (some (.set [])))
def setAt (env : PEnv) (i : Nat) : Bool := match env[i]? with
  | some (some (.set _)) => true
  | _ => false
def saddV (i : Nat) (rs : List Val) (env : PEnv) : R Val := match dsOf rs with
  | some [y] => match dKey y with
    | some k => match env[i]? with
      | some (some (.set ks)) => if ks.length < 1000 then .ok (.d .none) (env.set i (some (.set (ks ++ [k])))) else .stuck
      | _ => .stuck
    | none => .stuck
  | _ => .stuck
def saddE (i : Nat) (ms : PEnv → R (List Val)) : PEnv → R Val := fun env => if setAt env i = true then (ms env).bind (saddV i) else .stuck
def inSetE (neg : Bool) (m : PEnv → R Val) (i : Nat) : PEnv → R Val := fun env => (m env).bindF fun r env => match r with
  | .d y => match dKey y with
    | some k => match env[i]? with
      | some (some (.set ks)) => .ok (.d (.bool (if neg then !hasK ks k else hasK ks k))) env
      | _ => .stuck
    | none => .stuck
  | _ => .stuck
section
variable {X : Cx} {fa ca : Str → Addr} {E0 : L2.St → XK} {T : Ent}
theorem tS_set0 {i : Nat} {x nm : Str} {p pos' pos pos2 : Pos} (hg : Gl X "set") (hm : X.mg "set" = none) (hN : X.N.Nodup) (hi : X.N[i]? = some x) (hx : L2.Loc X.env.scope x)
    (hs : swapsWith (.Call (.Name "set" p) [] [] pos2) (some (.Name x pos')) pos.line X.env = pure false := by rfl) (hf : X.fn x = true ∨ X.env.scope.names.lookup x = some .local := by first | exact .inl rfl | exact .inr rfl | assumption) :
    PS X (.Assign [.Name x pos'] (.Call (.Name "set" p) [] [] pos2) pos) (tS (Cf X fa ca) T E0 (set0S i)) := by
  refine PS.weak (ps_set hN hi hx (pe_callTy0 cr_set0K hg hm rfl) hs hf) fun Z σ H ⟨env, F, loc, h⟩ => ⟨rfl, fun p hp => ?_⟩
  unfold set0S at h
  cases e : env[i]? with
  | none => rw [e] at h; exact h.elim
  | some o =>
    have hl : i < env.length := (List.getElem?_eq_some_iff.mp e).1
    have nb : ∀ xs, env[i]? ≠ some (some (.bor xs)) := by
      intro xs q
      rw [q] at h
      exact h.elim
    have h : PostS (Cf X fa ca) T E0 F Z (.ok .nx (env.set i (some (.set [])))) := by
      rw [e] at h
      cases o with
      | none => exact h
      | some s =>
        cases s with
        | bor xs => exact absurd e (nb xs)
        | val x => exact h
        | fn f => exact h
        | lst xs => exact h
        | set ks => exact h
    have fp : F p = none := by
      cases q : F p with
      | none => rfl
      | some u => rw [loc.rel.ex p u q] at hp; cases hp
    have n := loc.rel.laidN (o := SetK X.prog X.w p (fun _ => false) 0) hp
    exact h _ F _ ((loc.nx n).set hl nb (fun _ q => by cases q) ⟨p, _, rfl, upd_same, fp, 0, rfl, Nat.le_refl _⟩ fun c a _ q => by
      cases q
      exact ⟨fun m => loc.rel.nm p m hp, loc.dom hp⟩) (Evl.Ex.refl _)
theorem Rel.putSet {K : Kf} {fa : Fs} {σ : L2.St} {env : PEnv} {F H : Hp} (rel : Rel K fa F H env σ) {i : Nat} {ks ks' : List Key} {a : Addr} {o o' : HO} (e : env[i]? = some (some (.set ks))) (hv : σ[i]? = some (some (.ref a)))
    (h1 : H a = some o) (h2 : F a = none) (h3 : McR K fa F a o' (.s ks')) : Nx K fa σ env F H (env.set i (some (.set ks'))) F (upd H a o') := by
  have hm : (Slot.set ks).mut? = some (.s ks) := rfl
  have hl : i < env.length := (List.getElem?_eq_some_iff.mp e).1
  have mu0 : MA env σ a := ⟨i, _, ⟨_, e, hm⟩, hv⟩
  have muB : ∀ {j : Nat} {ys : Mc}, Mu (env.set i (some (.set ks'))) j ys → ∃ zs, Mu env j zs := by
    intro j ys ⟨t, q, m⟩
    rcases getSet q with ⟨z, _⟩ | ⟨z, q2⟩
    · subst z; exact ⟨_, _, e, hm⟩
    · exact ⟨ys, t, q2, m⟩
  refine ⟨⟨fun b u q => ?_, by rw [List.length_set]; exact rel.len, fun j t q => ?_, fun j k ys zs hne m1 m2 => ?_⟩, ⟨Evl.Ex.refl _, fun b q => ?_, fun b q1 _ _ => q1, fun b u q nm => ?_⟩, fun b ⟨j, ys, m, q⟩ => ?_, fun j ys q => ?_⟩
  · have z : b ≠ a := fun z => by rw [z, h2] at q; cases q
    rw [upd_ne z]; exact rel.ex b u q
  · rcases getSet q with ⟨z, q2⟩ | ⟨z, q2⟩
    · subst z
      cases q2
      exact ⟨_, hv, a, o', rfl, upd_same, h2, h3⟩
    · obtain ⟨w, hw, hs⟩ := rel.at_ j t q2
      refine ⟨w, hw, ?_⟩
      cases hmu : t.mut? with
      | some ys =>
        obtain ⟨b, ws, rfl, g1, g2, g3⟩ := hs.mu hmu
        have nb : b ≠ a := fun y => rel.dis j i ys _ z ⟨t, q2, hmu⟩ ⟨_, e, hm⟩ (by rw [hw, hv, y])
        exact SRel.of_mu hmu ⟨b, ws, rfl, by rw [upd_ne nb]; exact g1, g2, g3⟩
      | none =>
        cases t with
        | val x => exact hs
        | fn f => exact hs
        | lst xs => cases hmu
        | bor xs => cases hmu
        | set xs => cases hmu
  · obtain ⟨ys', m1'⟩ := muB m1
    obtain ⟨zs', m2'⟩ := muB m2
    exact rel.dis j k ys' zs' hne m1' m2'
  · by_cases z : b = a
    · subst z; rw [upd_same]; simp
    · rw [upd_ne z]; exact q
  · have z : b ≠ a := fun z => nm (by rw [z]; exact mu0)
    rw [upd_ne z]; exact q
  · obtain ⟨zs, m'⟩ := muB m
    exact ⟨j, zs, m', q⟩
  · by_cases z : j = i
    · subst z; rw [e] at q; cases q
    · exact ⟨ys, by rw [List.getElem?_set_ne (fun y => z y.symm)]; exact q⟩
theorem setAt_ok {K : Kf} {fa : Fs} {σ : L2.St} {env : PEnv} {F H : Hp} {i : Nat} (rel : Rel K fa F H env σ) (h : setAt env i = true) : ∃ a S n, σ[i]? = some (some (.ref a)) ∧ H a = some (SetK fa.P fa.w a S n) := by
  unfold setAt at h
  cases e : env[i]? with
  | none => rw [e] at h; cases h
  | some o =>
    cases o with
    | none => rw [e] at h; cases h
    | some s =>
      rw [e] at h
      cases s with
      | set ks =>
        obtain ⟨v, hv, a, o, rfl, g1, g2, n, rfl, _⟩ := rel.at_ i _ e
        exact ⟨a, _, n, hv, g1⟩
      | _ => cases h
theorem e_sadd {i : Nat} {x : Str} {e : Expr} {ms : PEnv → R (List Val)} {p apos cpos : Pos} (ho : PE X (.Name x p) (tVar i)) (ha : PA X [e] (tRA (Cf X fa ca) E0 ms)) (hbase : attributeBase (.Name x p) "add" X.env (eval (.Name x p) X.env) = eval (.Name x p) X.env := by rfl)
    (hfew : ((backTo cpos (starEach [e] X.env)).all (fun x => !x.1) && (backToKw cpos (keywordEach [] X.env)).all (fun x => x.1.isSome) && decide ([e].length + ([] : List Keyword).length + (if ([] : List Keyword).isEmpty then 0 else 1) < 30)) = true := by rfl)
    (hline : (apos.endLine == cpos.line) = true := by rfl) (hs : starEach [e] X.env = (false, eval e X.env) :: starEach [] X.env := by rfl) (hplain : (backTo cpos (starEach [] X.env)).any (·.1) = false := by rfl) :
    PE X (.Call (.Attribute (.Name x p) "add" apos) [e] [] cpos) (tR (Cf X fa ca) E0 (saddE i ms)) := by
  refine PE.weak (pe_saddK ho ha hbase hfew hline hs hplain) fun σ H Q ⟨env, F, rel, h⟩ => ?_
  unfold saddE at h
  by_cases hm : setAt env i = true
  · rw [if_pos hm] at h
    obtain ⟨a, S, n, hv, g1⟩ := setAt_ok rel hm
    refine ⟨_, hv, ⟨a, S, n, rfl, g1⟩, env, F, rel, seqLE h fun rs env1 ws F1 H1 n1 wr h1 => ?_⟩
    unfold saddV at h1
    cases ed : dsOf rs with
    | none => rw [ed] at h1; exact h1.elim
    | some ds =>
      rw [ed] at h1
      have ra := ds_ok wr ed
      match ds, h1, ra with
      | [], h1, _ => exact h1.elim
      | _ :: _ :: _, h1, _ => exact h1.elim
      | [y], h1, .cons ry .nil =>
        dsimp only at h1
        cases ek : dKey y with
        | none => rw [ek] at h1; exact h1.elim
        | some k =>
          rw [ek] at h1
          dsimp only at h1
          cases e1 : env1[i]? with
          | none => rw [e1] at h1; exact h1.elim
          | some o =>
            cases o with
            | none => rw [e1] at h1; exact h1.elim
            | some s =>
              rw [e1] at h1
              cases s with
              | set ks =>
                dsimp only at h1
                by_cases hz : ks.length < 1000
                · rw [if_pos hz] at h1
                  obtain ⟨v, hv1, b, o, rfl, k1, k2, m, rfl, k3⟩ := n1.rel.at_ i _ e1
                  rw [hv] at hv1
                  cases hv1
                  cases dKey_v ek ry
                  refine ⟨a, k, _, m, rfl, rfl, k1, Nat.lt_trans (by omega : m + 1 < 1002) (by decide), ?_⟩
                  have ef : (fun j => (ks.any fun i => decide (i = j)) || decide (j = k)) = fun j => (ks ++ [k]).any fun i => decide (i = j) := by
                    funext j
                    rw [List.any_append, List.any_cons, List.any_nil, Bool.or_false]
                    congr 1
                    exact decide_eq_decide.mpr ⟨fun z => z.symm, fun z => z.symm⟩
                  refine h1 .non F1 _ (n1.rel.putSet e1 hv k1 k2 ⟨if (ks.any fun j => decide (j = k)) = true then m else m + 1, ?_, ?_⟩) .non
                  · rw [← ef] <;> rfl
                  · rw [List.length_append]
                    split
                    · omega
                    · simp; omega
                · rw [if_neg hz] at h1; exact h1.elim
              | _ => exact h1.elim
  · rw [if_neg hm] at h; exact h.elim
theorem inSet_weak {neg : Bool} {m : PEnv → R Val} {i : Nat} {σ : L2.St} {H : Hp} {Q : VK} (h : tR (Cf X fa ca) E0 (inSetE neg m i) σ H Q) : tOp (rSInK X.prog X.w neg) (tR (Cf X fa ca) E0 m) (tVar i) σ H Q := by
  obtain ⟨env, F, rel, h⟩ := h
  refine ⟨env, F, rel, seqE rel h fun r env1 v F1 H1 n vr h1 => ?_⟩
  cases r with
  | d y =>
    dsimp only at h1
    cases ek : dKey y with
    | none => rw [ek] at h1; exact h1.elim
    | some k =>
      rw [ek] at h1
      dsimp only at h1
      cases e1 : env1[i]? with
      | none => rw [e1] at h1; exact h1.elim
      | some o =>
        cases o with
        | none => rw [e1] at h1; exact h1.elim
        | some s =>
          rw [e1] at h1
          cases s with
          | set ks =>
            obtain ⟨u, hu, b, o, rfl, k1, k2, m, rfl, k3⟩ := n.rel.at_ i _ e1
            cases dKey_v ek (show Rp X.K F1 v y from vr)
            exact ⟨_, hu, k, b, _, m, rfl, rfl, k1, h1.here n.rel (.bl _)⟩
          | _ => exact h1.elim
  | _ => exact h1.elim
theorem e_inSet {a : Expr} {x : Str} {m : PEnv → R Val} {i : Nat} {p pos : Pos} (ha : PE X a (tR (Cf X fa ca) E0 m)) (ho : PE X (.Name x p) (tVar i)) (hm : behindInMarks .In (.Name x p) = false := by rfl) : PE X (.Compare a [.In] [.Name x p] pos) (tR (Cf X fa ca) E0 (inSetE false m i)) :=
  PE.weak (pe_cmpR or_sinK ha ho hm) fun σ H Q h => inSet_weak h
theorem e_notinSet {a : Expr} {x : Str} {m : PEnv → R Val} {i : Nat} {p pos : Pos} (ha : PE X a (tR (Cf X fa ca) E0 m)) (ho : PE X (.Name x p) (tVar i)) (hm : behindInMarks .NotIn (.Name x p) = false := by rfl) : PE X (.Compare a [.NotIn] [.Name x p] pos) (tR (Cf X fa ca) E0 (inSetE true m i)) :=
  PE.weak (pe_cmpR or_snotinK ha ho hm) fun σ H Q h => inSet_weak h
theorem t_inSet {a : Expr} {x : Str} {m : PEnv → R Val} {i : Nat} {p pos : Pos} (ha : PE X a (tR (Cf X fa ca) E0 m)) (ho : PE X (.Name x p) (tVar i)) (hm : behindInMarks .In (.Name x p) = false := by rfl) : PT X (.Compare a [.In] [.Name x p] pos) (tRT (Cf X fa ca) E0 (boolT (inSetE false m i))) :=
  PT.weak (pt_cmpR or_sinK ha ho hm) fun σ H Q h => by obtain ⟨env, F, rel, h3⟩ := bool_weak h; exact inSet_weak ⟨env, F, rel, h3⟩
theorem t_notinSet {a : Expr} {x : Str} {m : PEnv → R Val} {i : Nat} {p pos : Pos} (ha : PE X a (tR (Cf X fa ca) E0 m)) (ho : PE X (.Name x p) (tVar i)) (hm : behindInMarks .NotIn (.Name x p) = false := by rfl) : PT X (.Compare a [.NotIn] [.Name x p] pos) (tRT (Cf X fa ca) E0 (boolT (inSetE true m i))) :=
  PT.weak (pt_cmpR or_snotinK ha ho hm) fun σ H Q h => by obtain ⟨env, F, rel, h3⟩ := bool_weak h; exact inSet_weak ⟨env, F, rel, h3⟩
end

/-! ### dicts as data -/
def keyIs (x : D) (k : Key) : Bool := match x, k with
  | .int i, .inl j => decide (i = j)
  | .str y, .inr z => decide (y = z)
  | _, _ => false
theorem keyIs_keyD (k j : Key) : keyIs (keyD k) j = decide (k = j) := by
  cases k <;> cases j <;> simp [keyIs, keyD]
def dLook (ds : List (D × D)) (k : Key) : Option D := (ds.find? fun p => keyIs p.1 k).map (·.2)
theorem dLook_ok {K : Kf} {F : Hp} {kvs : List (Key × V)} {ds : List (D × D)} (h : RpK K F kvs ds) (k : Key) : match dLook ds k with
    | some d => ∃ v, valV kvs k = some v ∧ Rp K F v d
    | none => valV kvs k = none := by
  induction kvs generalizing ds with
  | nil => cases h; rfl
  | cons q r ih =>
    cases h with
    | @cons j v d _ s a b =>
      have ih := ih b
      unfold dLook at ih ⊢
      rw [List.find?_cons, keyIs_keyD]
      by_cases z : j = k
      · rw [decide_eq_true z]
        exact ⟨v, valV_pos z, a⟩
      · rw [decide_eq_false z]
        dsimp only
        rw [valV_neg (p := (j, v)) z]
        exact ih
section
variable {X : Cx} {fa ca : Str → Addr} {E0 : L2.St → XK}
theorem Ct.dict {K : Kf} {F H : Hp} {v : V} {ds : List (D × D)} (h : Ct K F H v (.dict ds)) : ∃ a kvs, v = .ref a ∧ H a = some (.dK kvs) ∧ RpK K F kvs ds ∧ F a = some (.dK kvs) := by
  rcases h with ⟨h, e⟩ | ⟨a, vs, ys, rfl, e1, h2, h3, e⟩
  · cases h with | dic a b => exact ⟨_, _, rfl, e _ _ a, b, a⟩
  · cases e1
theorem dget_of {K : Kf} {F H : Hp} {a : Addr} {kvs : List (Key × V)} {ds : List (D × D)} {k : Key} (e : H a = some (.dK kvs)) (h : RpK K F kvs ds) : ∃ o, DGet H a (kV k) o ∧ match dLook ds k with
    | some d => ∃ v, o = some v ∧ Rp K F v d
    | none => o = none := by
  refine ⟨_, DGet.k e, ?_⟩
  have q := dLook_ok h k
  exact q
def ixD2 : D → D → Option Val
  | .dict ds, y => match dKey y with
    | some k => match dLook ds k with
      | some d => some (.d d)
      | none => none
    | none => none
  | x, y => ixD x y
theorem ix_D2 (hu : X.A.units + 1 < cLine) : IxR X (r2 (Cf X fa ca) ixD2) := by
  intro value slice pins s σ H x y v u Q I rx ry h hs
  obtain ⟨τ, env, F, dx, dy, res, rel, cx, cy, g, q⟩ := h
  cases dx with
  | dict ds =>
    have g : (match dKey dy with | some k => (match dLook ds k with | some d => some (Val.d d) | none => none) | none => none) = some res := g
    cases ek : dKey dy with
    | none => rw [ek] at g; cases g
    | some k =>
      rw [ek] at g
      dsimp only at g
      obtain ⟨a, kvs, rfl, ha, rk, hf⟩ := cx.dict
      obtain ⟨o, dg, m⟩ := dget_of (k := k) ha rk
      cases el : dLook ds k with
      | none => rw [el] at g; cases g
      | some d =>
        rw [el] at g m
        cases g
        obtain ⟨w, rfl, rw'⟩ := m
        cases rx
        cases dKey_v ek cy.rp
        exact tail_any (dict_typeIs I dg) slot_dict_getitem.lookup (d_getItem hu I dg ry fun w' s3 I3 rw2 => ⟨w, H, I3, rw2, q.here rel rw'⟩) hs
  | none => exact ix_D value slice pins s σ H x y v u Q I rx ry ⟨τ, env, F, _, dy, res, rel, cx, cy, g, q⟩ hs
  | bool b => exact ix_D value slice pins s σ H x y v u Q I rx ry ⟨τ, env, F, _, dy, res, rel, cx, cy, g, q⟩ hs
  | int i => exact ix_D value slice pins s σ H x y v u Q I rx ry ⟨τ, env, F, _, dy, res, rel, cx, cy, g, q⟩ hs
  | str z => exact ix_D value slice pins s σ H x y v u Q I rx ry ⟨τ, env, F, _, dy, res, rel, cx, cy, g, q⟩ hs
  | list xs => exact ix_D value slice pins s σ H x y v u Q I rx ry ⟨τ, env, F, _, dy, res, rel, cx, cy, g, q⟩ hs
  | tuple xs => exact ix_D value slice pins s σ H x y v u Q I rx ry ⟨τ, env, F, _, dy, res, rel, cx, cy, g, q⟩ hs
theorem e_ix2 {a b : Expr} {ma mb : PEnv → R Val} {pos : Pos} (hu : X.A.units + 1 < cLine) (ha : PE X a (tR (Cf X fa ca) E0 ma)) (hb : PE X b (tR (Cf X fa ca) E0 mb)) (hs : PlainIx b) : PE X (.Subscript a b pos) (tR (Cf X fa ca) E0 (binE ixD2 ma mb)) :=
  PE.weak (pe_ix (ix_D2 hu) ha hb hs) fun σ H Q h => bin_weak h
def inD2 (x : D) : D → Option Val
  | .dict ds => match dKey x with
    | some k => some (.d (.bool (dLook ds k).isSome))
    | none => none
  | y => inD x y
def notinD2 (x : D) : D → Option Val
  | .dict ds => match dKey x with
    | some k => some (.d (.bool (!(dLook ds k).isSome)))
    | none => none
  | y => notinD x y
theorem op_inD2 (hu : X.A.units + 65 < cLine) : OpR X (compareOp .In) (r2 (Cf X fa ca) inD2) := by
  intro pins s σ H x y v u Q I rx ry h
  obtain ⟨τ, env, F, dx, dy, res, rel, cx, cy, g, q⟩ := h
  cases dy with
  | dict ds =>
    have g : (match dKey dx with | some k => some (Val.d (.bool (dLook ds k).isSome)) | none => none) = some res := g
    cases ek : dKey dx with
    | none => rw [ek] at g; cases g
    | some k =>
      rw [ek] at g
      cases g
      obtain ⟨a, kvs, rfl, ha, rk, hf⟩ := cy.dict
      obtain ⟨o, dg, m⟩ := dget_of (k := k) ha rk
      have eo : o.isSome = (dLook ds k).isSome := by
        cases el : dLook ds k with
        | none => rw [el] at m; rw [m] <;> rfl
        | some d => rw [el] at m; obtain ⟨w, rfl, _⟩ := m; rfl
      cases ry
      cases dKey_v ek cx.rp
      refine d_in (by omega) I dg rx fun s3 I3 => ⟨.bl _, H, I3, rfl, ?_⟩
      rw [eo]
      exact q.here rel (.bl _)
  | none => exact op_inDd hu pins s σ H x y v u Q I rx ry ⟨τ, env, F, dx, _, res, rel, cx, cy, g, q⟩
  | bool b => exact op_inDd hu pins s σ H x y v u Q I rx ry ⟨τ, env, F, dx, _, res, rel, cx, cy, g, q⟩
  | int i => exact op_inDd hu pins s σ H x y v u Q I rx ry ⟨τ, env, F, dx, _, res, rel, cx, cy, g, q⟩
  | str z => exact op_inDd hu pins s σ H x y v u Q I rx ry ⟨τ, env, F, dx, _, res, rel, cx, cy, g, q⟩
  | list xs => exact op_inDd hu pins s σ H x y v u Q I rx ry ⟨τ, env, F, dx, _, res, rel, cx, cy, g, q⟩
  | tuple xs => exact op_inDd hu pins s σ H x y v u Q I rx ry ⟨τ, env, F, dx, _, res, rel, cx, cy, g, q⟩
theorem op_notinD2 (hu : X.A.units + 65 < cLine) : OpR X (compareOp .NotIn) (r2 (Cf X fa ca) notinD2) := by
  intro pins s σ H x y v u Q I rx ry h
  obtain ⟨τ, env, F, dx, dy, res, rel, cx, cy, g, q⟩ := h
  cases dy with
  | dict ds =>
    have g : (match dKey dx with | some k => some (Val.d (.bool (!(dLook ds k).isSome))) | none => none) = some res := g
    cases ek : dKey dx with
    | none => rw [ek] at g; cases g
    | some k =>
      rw [ek] at g
      cases g
      obtain ⟨a, kvs, rfl, ha, rk, hf⟩ := cy.dict
      obtain ⟨o, dg, m⟩ := dget_of (k := k) ha rk
      have eo : o.isSome = (dLook ds k).isSome := by
        cases el : dLook ds k with
        | none => rw [el] at m; rw [m] <;> rfl
        | some d => rw [el] at m; obtain ⟨w, rfl, _⟩ := m; rfl
      cases ry
      cases dKey_v ek cx.rp
      refine d_notIn (by omega) I dg rx fun s3 I3 => ⟨.bl _, H, I3, rfl, ?_⟩
      rw [eo]
      exact q.here rel (.bl _)
  | none => exact op_notinDd hu pins s σ H x y v u Q I rx ry ⟨τ, env, F, dx, _, res, rel, cx, cy, g, q⟩
  | bool b => exact op_notinDd hu pins s σ H x y v u Q I rx ry ⟨τ, env, F, dx, _, res, rel, cx, cy, g, q⟩
  | int i => exact op_notinDd hu pins s σ H x y v u Q I rx ry ⟨τ, env, F, dx, _, res, rel, cx, cy, g, q⟩
  | str z => exact op_notinDd hu pins s σ H x y v u Q I rx ry ⟨τ, env, F, dx, _, res, rel, cx, cy, g, q⟩
  | list xs => exact op_notinDd hu pins s σ H x y v u Q I rx ry ⟨τ, env, F, dx, _, res, rel, cx, cy, g, q⟩
  | tuple xs => exact op_notinDd hu pins s σ H x y v u Q I rx ry ⟨τ, env, F, dx, _, res, rel, cx, cy, g, q⟩

/-! ### tables of the module -/
structure KTab (K : Kf) (w : World) (a : Addr) (tbl : List (Str × D)) : Prop where
  kd : ∃ es n, KDict K w a es n
  hit : ∀ k d, tbl.lookup k = some d → ∃ u v, PySem.W.nsIn K a k = some (some u) ∧ RelV v u ∧ Rp K (fun _ => none) v d
  miss : ∀ k, tbl.lookup k = none → PySem.W.nsIn K a k = some none
def tabIx (tbl : List (Str × D)) : D → Option Val
  | .str z => match tbl.lookup z with
    | some d => some (.d d)
    | none => none
  | _ => none
def tabGet (tbl : List (Str × D)) : D → Option Val
  | .str z => match tbl.lookup z with
    | some d => some (.d d)
    | none => some (.d .none)
  | _ => none
theorem e_kix {g : Str} {a : Addr} {tbl : List (Str × D)} {b : Expr} {m : PEnv → R Val} {p pos : Pos} (hg : Gl X g) (hm : X.mg g = some (.ref a)) (T : KTab X.K X.w a tbl) (hb : PE X b (tR (Cf X fa ca) E0 m)) (hs : PlainIx b) (hd : (g == ("__debug__" : Str)) = false := by decide) :
    PE X (.Subscript (.Name g p) b pos) (tR (Cf X fa ca) E0 (unE (tabIx tbl) m)) := by
  refine PE.weak (pe_ix ix_kdict (pe_glob hg hm (v := .ref a) rfl hd) hb hs) fun σ H Q ⟨env, F, rel, h⟩ => ⟨env, F, rel, seqE rel h fun r env1 v F1 H1 n vr h1 => ?_⟩
  obtain ⟨_, _, _, dx, res, rel2, cx, eg, q⟩ := unV_ok n.rel vr h1
  cases dx with
  | str z =>
    cases cx.str
    have eg : (match tbl.lookup z with | some d => some (Val.d d) | none => none) = some res := eg
    cases el : tbl.lookup z with
    | none => rw [el] at eg; cases eg
    | some d =>
      rw [el] at eg
      cases eg
      obtain ⟨u, v, h2, rv, rp⟩ := T.hit z d el
      obtain ⟨es, n, kd⟩ := T.kd
      exact ⟨a, z, v, rfl, rfl, ⟨es, n, u, kd.at_, kd.lit, h2, rv⟩, q.here rel2 (rp.up fun _ _ z => by cases z)⟩
  | _ => cases eg
theorem e_kget {g : Str} {a : Addr} {tbl : List (Str × D)} {e : Expr} {m : PEnv → R Val} {p apos cpos : Pos} (hg : Gl X g) (hm : X.mg g = some (.ref a)) (T : KTab X.K X.w a tbl) (he : PE X e (tR (Cf X fa ca) E0 m)) (m1 : M1 X (.Name g p) "get" apos e cpos) (hd : (g == ("__debug__" : Str)) = false := by decide) :
    PE X (.Call (.Attribute (.Name g p) "get" apos) [e] [] cpos) (tR (Cf X fa ca) E0 (unE (tabGet tbl) m)) := by
  obtain ⟨es, n, kd⟩ := T.kd
  refine ⟨fun pins s σ H Q I h => ?_⟩
  refine wpAny_Call_method m1.base m1.few m1.line PySem.F.plainAttrs_dict PySem.F.slot_dict_get PySem.F.type_dict_get (thn ((pe_glob hg hm (v := .ref a) rfl hd).run pins s σ H (fun x H1 => x = .ref a ∧ tR (Cf X fa ca) E0 (unE (tabGet tbl) m) σ H1 Q) I ⟨rfl, h⟩) fun u s1 ⟨x, H1, I1, rx, ex, q1⟩ => ?_)
  subst ex
  obtain rfl : u = Value.ref a := rx
  refine ⟨kd_type kd I1, fun b q => ?_, ?_⟩
  · cases q
    exact ⟨_, I1.kIn _ _ kd.at_, rfl⟩
  rw [m1.trees]
  obtain ⟨env, F, rel, h⟩ := q1
  refine Calls.callWith_builtin rfl (Calls.evalArgs_plain (Calls.spliced_cons (thn (he.run pins s1 σ H1 (fun y H2 => ∃ z, y = .str z ∧ ∀ v, (match tbl.lookup z with | some d => Rp X.K (fun _ => none) v d | none => v = .non) → Q v H2) I1 ⟨env, F, rel, seqE rel h fun r env1 v F1 H1 n vr h1 => ?_⟩) fun iv s2 ⟨y, H2, I2, ry, z, ey, q2⟩ => Calls.spliced_nil ?_)))
  · obtain ⟨_, _, _, dx, res, rel2, cx, eg, q⟩ := unV_ok n.rel vr h1
    cases dx with
    | str z =>
      cases cx.str
      refine ⟨z, rfl, fun w hw => ?_⟩
      have eg : (match tbl.lookup z with | some d => some (Val.d d) | none => some (.d .none)) = some res := eg
      cases el : tbl.lookup z with
      | none =>
        rw [el] at eg hw
        cases eg
        cases hw
        exact q.here rel2 .non
      | some d =>
        rw [el] at eg hw
        cases eg
        exact q.here rel2 (hw.up fun _ _ z => by cases z)
    | _ => cases eg
  · subst ey
    obtain ⟨t, rfl⟩ := ry
    have hm' := PySem.W.mapOf_K (prog := X.prog) (w := X.w) I2.kIn kd.at_ kd.lit
    refine call_meetsIn PySem.F.slot_dict_get hm'.typeIs PySem.F.entry_dict_get (PySem.F.args_dict_get_2 _ _) (meets_dict_get (strKind X.prog X.w) a (strKind_is X.prog X.w z t) kd.low) ⟨_, hm', ?_⟩
    cases el : tbl.lookup z with
    | some d =>
      obtain ⟨u, v, h2, rv, rp⟩ := T.hit z d el
      rw [PySem.W.find_K kd.at_ h2]
      exact ⟨v, H2, I2.tok _, rv, q2 v (by rw [el]; exact rp)⟩
    | none =>
      rw [PySem.W.find_K kd.at_ (T.miss z el)]
      exact ⟨.non, H2, I2.tok _, rfl, q2 .non (by rw [el])⟩
end
end Pi


set_option Elab.async false
set_option linter.all false
set_option maxRecDepth 100000
set_option autoImplicit false
/-! Pi15: dict comprehensions -/
namespace Pi
open PySem PySem.Spec PyProof.Rows L2

def putD (ds : List (D × D)) (k : Key) (v : D) : List (D × D) :=
  if (ds.any fun p => keyIs p.1 k) = true then ds.map (fun p => if keyIs p.1 k = true then (p.1, v) else p) else ds ++ [(keyD k, v)]
theorem RpK.app {K : Kf} {F : Hp} {a b : List (Key × V)} {x y : List (D × D)} (h : RpK K F a x) (g : RpK K F b y) : RpK K F (a ++ b) (x ++ y) := by
  induction a generalizing x with
  | nil => cases h; exact g
  | cons p a ih => cases h with | cons r s => exact .cons r (ih s)
theorem RpK.len {K : Kf} {F : Hp} {a : List (Key × V)} {x : List (D × D)} (h : RpK K F a x) : a.length = x.length := by
  induction a generalizing x with
  | nil => cases h; rfl
  | cons p a ih => cases h with | cons r s => simp [ih s]
theorem RpK.any {K : Kf} {F : Hp} {a : List (Key × V)} {x : List (D × D)} (h : RpK K F a x) (k : Key) : (a.any fun kv => decide (kv.1 = k)) = x.any fun p => keyIs p.1 k := by
  induction a generalizing x with
  | nil => cases h; rfl
  | cons p a ih => cases h with | cons r s => rw [List.any_cons, List.any_cons, ih s, keyIs_keyD]
theorem RpK.mapPut {K : Kf} {F : Hp} {a : List (Key × V)} {x : List (D × D)} {k : Key} {v : V} {d : D} (r : Rp K F v d) (h : RpK K F a x) : RpK K F (a.map fun kv => if kv.1 = k then (kv.1, v) else kv) (x.map fun p => if keyIs p.1 k = true then (p.1, d) else p) := by
  induction a generalizing x with
  | nil => cases h; exact .nil
  | cons p a ih =>
    cases h with
    | @cons j w e _ s r' s' =>
      rw [List.map_cons, List.map_cons, keyIs_keyD]
      by_cases z : j = k
      · rw [if_pos z, if_pos (decide_eq_true z)]
        exact .cons r (ih s')
      · rw [if_neg z, if_neg (by rw [decide_eq_false z]; exact Bool.false_ne_true)]
        exact .cons r' (ih s')
theorem RpK.put {K : Kf} {F : Hp} {a : List (Key × V)} {x : List (D × D)} {k : Key} {v : V} {d : D} (h : RpK K F a x) (r : Rp K F v d) : RpK K F (putK a k v) (putD x k d) := by
  unfold putK putD
  rw [h.any k]
  by_cases z : (x.any fun p => keyIs p.1 k) = true
  · rw [if_pos z, if_pos z]; exact RpK.mapPut r h
  · rw [if_neg z, if_neg z]; exact h.app (.cons r .nil)
theorem RpK.up {K : Kf} {F G : Hp} {v : List (Key × V)} {d : List (D × D)} (h : RpK K F v d) (e : Ex F G) : RpK K G v d := RpK.mono e d v h

def dcGo (js : List Nat) (g : Tg) (t : PEnv → R Bool) (ek ev : PEnv → R Val) : List D → PEnv → List (D × D) → R (List (D × D))
  | [], env, acc => .ok acc env
  | x :: xs, env, acc => match g x env with
    | none => .stuck
    | some env1 => match t env1 with
      | .ok true env2 => match ek env2 with
        | .ok rk env3 => match rk.frz with
          | .d y => match dKey y with
            | some k => match ev env3 with
              | .ok rv env4 => match rv.frz with
                | .d z => if acc.length < big then dcGo js g t ek ev xs (wipeE env4 js) (putD acc k z) else .stuck
                | _ => .stuck
              | _ => .stuck
            | none => .stuck
          | _ => .stuck
        | _ => .stuck
      | .ok false env2 => dcGo js g t ek ev xs (wipeE env2 js) acc
      | _ => .stuck
def dcFin (js : List Nat) (env : PEnv) : R (List (D × D)) → R Val
  | .ok acc e => .ok (.d (.dict acc)) (restE env e js)
  | _ => .stuck
def dcE (js : List Nat) (m : PEnv → R (List D)) (g : Tg) (t : PEnv → R Bool) (ek ev : PEnv → R Val) : PEnv → R Val := fun env => (m env).bind fun items env =>
  if js.all (plainAt env) = true then dcFin js env (dcGo js g t ek ev items (wipeE env js) []) else .stuck

section
variable {X : Cx} {fa ca : Str → Addr} {E0 : L2.St → XK}
/-- where a dict comprehension stands between two turns -/
structure MidD (C : Cfg) (js : List Nat) (σ : L2.St) (D : Addr) (env1 : PEnv) (F1 H1 : Hp) (env' : PEnv) (acc : List (PyData × PyData)) (F' H' : Hp) : Prop where
  rel : Rel C.K C.fa F' H' env' (L2.wipe σ js)
  adv : Adv (MA env1 σ) F1 H1 F' H'
  sub : ∀ a, MA env' (L2.wipe σ js) a → MA env1 σ a
  bor : ∀ (i : Nat) (xs : List PyData), i ∉ js → env1[i]? = some (some (.bor xs)) → ∃ ys, env'[i]? = some (some (.bor ys))
  new : H1 D = none ∧ F' D = none
  lst : ∃ vs, H' D = some (.dK vs) ∧ RpK C.K F' vs acc
theorem MidD.nx {C : Cfg} {js : List Nat} {σ σ2 : L2.St} {D : Addr} {env1 env' env2 : PEnv} {F1 H1 F' H' F2 H2 : Hp} {acc : List (PyData × PyData)} (hm : ∀ a, MA env1 σ a → H1 a ≠ none) (m : MidD C js σ D env1 F1 H1 env' acc F' H') {env3 : PEnv}
    (ma : ∀ a, MA env2 σ2 a → MA env' (L2.wipe σ js) a) (bo : ∀ (i : Nat) (xs : List PyData), i ∉ js → env'[i]? = some (some (.bor xs)) → env2[i]? = some (some (.bor xs))) (hw : L2.wipe σ2 js = L2.wipe σ js) (n : Nx C.K C.fa σ2 env2 F' H' env3 F2 H2) :
    MidD C js σ D env1 F1 H1 (wipeE env3 js) acc F2 H2 := by
  have nD : ¬ MA env1 σ D := fun q => hm D q m.new.1
  have n2 : ¬ MA env2 σ2 D := fun q => nD (m.sub D (ma D q))
  obtain ⟨vs, h1, h2⟩ := m.lst
  refine ⟨by rw [← hw]; exact n.rel.wipe, m.adv.trans n.adv fun x q _ => m.sub x (ma x q), fun a q => m.sub a (ma a (n.sub a ?_)), fun i xs hi e => ?_, ⟨m.new.1, n.adv.fresh D m.new.2 (by rw [h1]; simp) n2⟩, vs, n.adv.keep D _ h1 n2, h2.up n.adv.fz⟩
  · rw [← hw] at q; exact q.wipe
  · obtain ⟨ys, e1⟩ := m.bor i xs hi e
    obtain ⟨zs, e2⟩ := n.bor i ys (bo i ys hi e1)
    exact ⟨zs, by rw [wipeE_ne hi]; exact e2⟩
theorem MidD.nx0 {C : Cfg} {js : List Nat} {σ : L2.St} {D : Addr} {env1 env' env3 : PEnv} {F1 H1 F' H' F2 H2 : Hp} {acc : List (PyData × PyData)} (hm : ∀ a, MA env1 σ a → H1 a ≠ none) (m : MidD C js σ D env1 F1 H1 env' acc F' H') (n : Nx C.K C.fa (L2.wipe σ js) env' F' H' env3 F2 H2) :
    MidD C js σ D env1 F1 H1 env3 acc F2 H2 := by
  have nD : ¬ MA env1 σ D := fun q => hm D q m.new.1
  have n2 : ¬ MA env' (L2.wipe σ js) D := fun q => nD (m.sub D q)
  obtain ⟨vs, h1, h2⟩ := m.lst
  refine ⟨n.rel, m.adv.trans n.adv fun x q _ => m.sub x q, fun a q => m.sub a (n.sub a q), fun i xs hi e => ?_, ⟨m.new.1, n.adv.fresh D m.new.2 (by rw [h1]; simp) n2⟩, vs, n.adv.keep D _ h1 n2, h2.up n.adv.fz⟩
  obtain ⟨ys, e1⟩ := m.bor i xs hi e
  exact n.bor i ys e1
theorem MidD.push {C : Cfg} {js : List Nat} {σ : L2.St} {D : Addr} {env1 env' : PEnv} {F1 H1 F' H' : Hp} {acc : List (PyData × PyData)} {vs : List (Key × V)} {v : V} {k : Key} {y : PyData} (hm : ∀ a, MA env1 σ a → H1 a ≠ none) (m : MidD C js σ D env1 F1 H1 env' acc F' H')
    (h : H' D = some (.dK vs)) (ra : RpK C.K F' vs acc) (r : Rp C.K F' v y) : MidD C js σ D env1 F1 H1 env' (putD acc k y) F' (upd H' D (.dK (putK vs k v))) := by
  have nD : ¬ MA env1 σ D := fun q => hm D q m.new.1
  refine ⟨⟨fun a u q => ?_, m.rel.len, fun i s e => ?_, m.rel.dis⟩, ⟨m.adv.fz, fun a q => ?_, m.adv.fresh, fun a u q nm => ?_⟩, m.sub, m.bor, m.new, _, upd_same, ra.put r⟩
  · have z : a ≠ D := fun z => by rw [z, m.new.2] at q; cases q
    rw [upd_ne z]; exact m.rel.ex a u q
  · obtain ⟨w, hw, hs⟩ := m.rel.at_ i s e
    refine ⟨w, hw, ?_⟩
    cases hmu : s.mut? with
    | some xs =>
      obtain ⟨b, ws, rfl, g1, g2, g3⟩ := hs.mu hmu
      have z : b ≠ D := fun z => nD (m.sub D ⟨i, xs, ⟨s, e, hmu⟩, by rw [hw, z]⟩)
      exact SRel.of_mu hmu ⟨b, ws, rfl, by rw [upd_ne z]; exact g1, g2, g3⟩
    | none =>
      cases s with
      | val x => exact hs
      | fn f => exact hs
      | lst xs => cases hmu
      | bor xs => cases hmu
      | set xs => cases hmu
  · by_cases z : a = D
    · subst z; rw [upd_same]; simp
    · rw [upd_ne z]; exact m.adv.dom a q
  · have z : a ≠ D := fun z => by rw [z, m.new.1] at q; cases q
    rw [upd_ne z]; exact m.adv.keep a u q nm
/-- a new object may be known from now on -/
theorem Nx.know {K : Kf} {fa : Fs} {σ : L2.St} {env env1 : PEnv} {F H F1 H1 : Hp} (n : Nx K fa σ env F H env1 F1 H1) {a : Addr} {o : HO} (ha : H a = none) (hb : H1 a = some o) (hc : F1 a = none) (nm : ∀ a, MA env σ a → H a ≠ none) : Nx K fa σ env F H env1 (upd F1 a o) H1 := by
  have ex : Ex F1 (upd F1 a o) := Evl.Ex.new hc
  refine ⟨⟨fun b u q => ?_, n.rel.len, fun i s e => ?_, n.rel.dis⟩, ⟨n.adv.fz.trans ex, n.adv.dom, fun b q1 q2 q3 => ?_, n.adv.keep⟩, n.sub, n.bor⟩
  · by_cases z : b = a
    · subst z; rw [upd_same] at q; cases q; exact hb
    · rw [upd_ne z] at q; exact n.rel.ex b u q
  · obtain ⟨w, hw, hs⟩ := n.rel.at_ i s e
    refine ⟨w, hw, ?_⟩
    cases hm : s.mut? with
    | some ys =>
      obtain ⟨b, ws, h1, h2, h3, h4⟩ := hs.mu hm
      have nb : b ≠ a := fun z => by
        have m : MA env1 σ b := ⟨i, ys, ⟨s, e, hm⟩, by rw [hw, h1]⟩
        have := nm b (n.sub b m)
        rw [z] at this; exact this ha
      exact SRel.of_mu hm ⟨b, ws, h1, h2, by rw [upd_ne nb]; exact h3, h4.up ex⟩
    | none =>
      cases s with
      | val x => exact Rp.up (show Rp K F1 w x from hs) ex
      | fn f => exact hs
      | lst xs => cases hm
      | bor xs => cases hm
      | set xs => cases hm
  · have z : b ≠ a := fun z => q2 (by rw [z]; exact ha)
    rw [upd_ne z]; exact n.adv.fresh b q1 q2 q3
theorem dc_weak {C : Cfg} {js : List Nat} {g : Tg} {m : PEnv → R (List PyData)} {t : PEnv → R Bool} {ek ev : PEnv → R Val} {σ : L2.St} {H : Hp} {Q : VK} (h : tR C E0 (dcE js m g t ek ev) σ H Q) :
    tDc (tI C E0 m) (tG C js g) (tRT C noE t) (tR C noE ek) (tR C noE ev) js σ H Q := by
  obtain ⟨env, F, rel, h⟩ := h
  refine ⟨env, F, rel, ?_⟩
  unfold dcE at h
  cases em : m env with
  | stuck => rw [em] at h; exact h.elim
  | exc c x e1 => rw [em] at h; exact h
  | ok items env1 =>
    rw [em] at h
    intro J F1 H1 n src D hD
    have h := Post.later n (show Post C E0 σ env F H (if js.all (plainAt env1) = true then dcFin js env1 (dcGo js g t ek ev items (wipeE env1 js) []) else .stuck) Q from h)
    by_cases pl : js.all (plainAt env1) = true
    · rw [if_pos pl] at h
      have hm : ∀ a, MA env1 σ a → H1 a ≠ none := n.rel.nm
      have fD : F1 D = none := by
        cases z : F1 D with
        | none => rfl
        | some u => rw [n.rel.ex D u z] at hD; cases hD
      have nl := n.rel.laidN (o := .dK []) hD
      refine ⟨fun i k H' => k = items.length - i ∧ i ≤ items.length ∧ ∃ env' acc F', MidD C js σ D env1 F1 H1 env' acc F' H' ∧ Post C E0 σ env1 F1 H1 (dcFin js env1 (dcGo js g t ek ev (items.drop i) env' acc)) Q,
        ⟨items.length, by simp, Nat.zero_le _, wipeE env1 js, [], F1, ⟨nl.rel.wipe, nl.adv, fun a q => q.wipe, fun i xs hi e => ⟨xs, by rw [wipeE_ne hi]; exact e⟩, ⟨hD, fD⟩, [], upd_same, .nil⟩, by simpa using h⟩, ?_⟩
      rintro i k H' ⟨rfl, hi, env', acc, F', mid, post⟩
      by_cases hlt : i < items.length
      · right
        refine ⟨src.go i F' H' hlt mid.adv.fz mid.rel.ex, fun H2 => i + 1 ≤ items.length ∧ ∃ env2 acc2 F2, MidD C js σ D env1 F1 H1 env2 acc2 F2 H2 ∧ Post C E0 σ env1 F1 H1 (dcFin js env1 (dcGo js g t ek ev (items.drop (i + 1)) env2 acc2)) Q,
          fun H2 hN => ⟨items.length - (i + 1), by omega, rfl, hN⟩, fun x H2 y => ?_⟩
        obtain ⟨d, hd, alt⟩ := src.yld i F' H' x H2 hlt mid.adv.fz mid.rel.ex y
        have ed : items.drop i = d :: items.drop (i + 1) := by
          obtain ⟨hl, hv⟩ := List.getElem?_eq_some_iff.mp hd
          rw [List.drop_eq_getElem_cons hl, hv]
        rw [ed] at post
        obtain ⟨F2, n2, rp⟩ : ∃ F2, Nx C.K C.fa (L2.wipe σ js) env' F' H' env' F2 H2 ∧ Rp C.K F2 x d := by
          rcases alt with ⟨rfl, rp⟩ | ⟨p, o, hp, rfl, rp⟩
          · exact ⟨F', Nx.refl mid.rel, rp⟩
          · exact ⟨_, mid.rel.laid hp, rp⟩
        have mid2 := mid.nx0 hm n2
        refine ⟨env', F2, d, n2.rel, rp, ?_⟩
        unfold dcGo at post
        cases eg : g d env' with
        | none => rw [eg] at post; exact post.elim
        | some env2 =>
          rw [eg] at post
          dsimp only at post
          intro σ2 rel2 ts
          have hw : L2.wipe σ2 js = L2.wipe σ js := by
            rw [← wipe_wipe (σ := σ) (js := js)]
            refine wipe_eq ts.len.2 fun j hj => ?_
            rcases ts.at_ j with ⟨_, q⟩ | ⟨q, _⟩
            · exact q
            · exact absurd q hj
          refine ⟨hw, env2, F2, rel2, ?_⟩
          cases et : t env2 with
          | stuck => rw [et] at post; exact post.elim
          | exc c x e1 => rw [et] at post; exact post.elim
          | ok b env3 =>
            rw [et] at post
            intro F3 H3 n3
            have bo : ∀ (i : Nat) (xs : List PyData), i ∉ js → env'[i]? = some (some (.bor xs)) → env2[i]? = some (some (.bor xs)) := fun i xs _ q => (ts.bor q).1
            cases b with
            | false =>
              rw [if_neg Bool.false_ne_true]
              exact ⟨hlt, _, acc, F3, mid2.nx hm (fun a q => ts.ma q) bo hw n3, post⟩
            | true =>
              rw [if_pos rfl]
              refine ⟨env3, F3, n3.rel, ?_⟩
              dsimp only at post
              cases ee : ek env3 with
              | stuck => rw [ee] at post; exact post.elim
              | exc c x e1 => rw [ee] at post; exact post.elim
              | ok r env4 =>
                rw [ee] at post
                intro v F4 H4 n4 p
                obtain ⟨F5, n5, vr⟩ := n4.frz p n3.rel.nm
                dsimp only at post
                cases er : r.frz with
                | own i => rw [er] at post; exact post.elim
                | new xs => rw [er] at post; exact post.elim
                | fn f => rw [er] at post; exact post.elim
                | d z =>
                  rw [er] at post vr
                  dsimp only at post
                  cases ez : dKey z with
                  | none => rw [ez] at post; exact post.elim
                  | some k =>
                    rw [ez] at post
                    dsimp only at post
                    refine ⟨env4, F5, n5.rel, ?_⟩
                    cases e2 : ev env4 with
                    | stuck => rw [e2] at post; exact post.elim
                    | exc c x e1 => rw [e2] at post; exact post.elim
                    | ok r2 env5 =>
                      rw [e2] at post
                      intro v2 F6 H6 n6 p6
                      obtain ⟨F7, n7, vr7⟩ := n6.frz p6 n5.rel.nm
                      dsimp only at post
                      cases er2 : r2.frz with
                      | own i => rw [er2] at post; exact post.elim
                      | new xs => rw [er2] at post; exact post.elim
                      | fn f => rw [er2] at post; exact post.elim
                      | d z2 =>
                        rw [er2] at post vr7
                        dsimp only at post
                        by_cases hb : acc.length < big
                        · rw [if_pos hb] at post
                          have mid3 := mid2.nx hm (fun a q => ts.ma q) bo hw ((n3.trans n5).trans n7)
                          obtain ⟨vs, g1, g2⟩ := mid3.lst
                          exact ⟨vs, k, dKey_v ez vr, g1, by rw [g2.len]; exact big_lt hb, hlt, _, _, F7, mid3.push hm g1 g2 vr7, post⟩
                        · rw [if_neg hb] at post; exact post.elim
      · have hi' : i = items.length := by omega
        subst hi'
        rw [List.drop_length] at post
        refine .inl ⟨src.stop F' H' mid.adv.fz mid.rel.ex, ?_⟩
        obtain ⟨vs, g1, g2⟩ := mid.lst
        have nD : ¬ MA env1 σ D := fun q => hm D q hD
        have muB : ∀ {i : Nat} {xs : Mc}, Mu (restE env1 env' js) i xs → i ∉ js ∧ Mu env' i xs := by
          intro i xs ⟨s, e, hmu⟩
          by_cases z : i ∈ js
          · have q := restE_in z e
            have pi := List.all_eq_true.mp pl i z
            unfold plainAt at pi
            rw [q] at pi
            simp [hmu] at pi
          · rw [restE_ne z] at e
            exact ⟨z, s, e, hmu⟩
        have n9 : Nx C.K C.fa σ env1 F1 H1 (restE env1 env' js) F' H' := by
          refine ⟨⟨mid.rel.ex, ?_, fun i s e => ?_, fun i j xs ys hne m1 m2 => ?_⟩, mid.adv, fun a ⟨i, xs, mu, q⟩ => ?_, fun i xs e => ?_⟩
          · rw [restE_len, mid.rel.len, wipe_length]
          · by_cases z : i ∈ js
            · have q := restE_in z e
              obtain ⟨v, hv, hs⟩ := n.rel.at_ i s q
              have pi := List.all_eq_true.mp pl i z
              unfold plainAt at pi
              rw [q] at pi
              refine ⟨v, hv, ?_⟩
              cases s with
              | val x => exact Rp.up (show Rp C.K F1 v x from hs) mid.adv.fz
              | fn f => exact hs
              | lst xs => simp [Slot.mut?] at pi
              | bor xs => simp [Slot.mut?] at pi
              | set xs => simp [Slot.mut?] at pi
            · rw [restE_ne z] at e
              obtain ⟨v, hv, hs⟩ := mid.rel.at_ i s e
              rw [wipe_ne z] at hv
              exact ⟨v, hv, hs⟩
          · obtain ⟨z1, k1⟩ := muB m1
            obtain ⟨z2, k2⟩ := muB m2
            have := mid.rel.dis i j xs ys hne k1 k2
            rw [wipe_ne z1, wipe_ne z2] at this
            exact this
          · obtain ⟨z1, k1⟩ := muB mu
            exact mid.sub a ⟨i, xs, k1, by rw [wipe_ne z1]; exact q⟩
          · have z : i ∉ js := fun z => by
              have pi := List.all_eq_true.mp pl i z
              unfold plainAt at pi
              rw [e] at pi
              simp [Slot.mut?] at pi
            obtain ⟨ys, q⟩ := mid.bor i xs z e
            exact ⟨ys, by rw [restE_ne z]; exact q⟩
        exact post (.ref D) (upd F' D (.dK vs)) H' (n9.know hD g1 mid.new.2 hm) (.dic upd_same (g2.up (Evl.Ex.new mid.new.2)))
    · rw [if_neg pl] at h; exact h.elim
theorem e_dc {kx vx tg iter : Expr} {ifs : List Expr} {scope : Scope} {own : List (Str × Nat)} {pos : Pos} {g : Tg} {m : PEnv → R (List PyData)} {t : PEnv → R Bool} {ek ev : PEnv → R Val} (hc : X.calm = true) (hN : X.N.Nodup)
    (hi : PI X tg iter (tI (Cf X fa ca) E0 m)) (ok : BlkOk X.N X.env.scope scope own)
    (hg : ∀ (s : Shared) (H : Hp) (A : Addr) (cl : List (Str × Addr)) (fp : List Addr), PG (X.blk s H scope (compEnvC scope cl A X.env) fp) tg (tG (Cf X fa ca) (own.map (·.2)) g))
    (ht : ∀ (s : Shared) (H : Hp) (A : Addr) (cl : List (Str × Addr)) (fp : List Addr), PTs (X.blk s H scope (compEnvC scope cl A X.env) fp) ifs (tRT (Cf X fa ca) noE t))
    (hk : ∀ (s : Shared) (H : Hp) (A : Addr) (cl : List (Str × Addr)) (fp : List Addr), PE (X.blk s H scope (compEnvC scope cl A X.env) fp) kx (tR (Cf X fa ca) noE ek))
    (he : ∀ (s : Shared) (H : Hp) (A : Addr) (cl : List (Str × Addr)) (fp : List Addr), PE (X.blk s H scope (compEnvC scope cl A X.env) fp) vx (tR (Cf X fa ca) noE ev)) (hs : ∀ x, foldedSetIterable iter X.env x = pure x := by intro _; rfl) :
    PE X (.DictComp kx vx [⟨tg, iter, ifs, 0⟩] scope pos) (tR (Cf X fa ca) E0 (dcE (own.map (·.2)) m g t ek ev)) := by
  refine PE.weak (pe_dc hc hN hi ok hg ht hk he hs) fun σ H Q h => dc_weak h
end
end Pi


set_option Elab.async false
set_option linter.all false
set_option maxRecDepth 100000
set_option autoImplicit false
/-! Pi16: several names at once -/
namespace Pi
open PySem PySem.Spec PyProof.Rows L2

/-- for a list of one's own: as it is; else known from then on -/
def R.bindO {α : Type} (own : Bool) (m : R Val) (f : Val → PEnv → R α) : R α := if own then m.bind f else m.bindF f
def par2S (i : Nat) (oi : Bool) (ma : PEnv → R Val) (j : Nat) (oj : Bool) (mb : PEnv → R Val) : PEnv → R Flow := fun env =>
  (ma env).bindO oi fun ra env => (mb env).bindO oj fun rb env => (asgV i oi ra env).thenS fun env => (asgV j oj rb env).thenS skipS
def par3S (i : Nat) (oi : Bool) (ma : PEnv → R Val) (j : Nat) (oj : Bool) (mb : PEnv → R Val) (k : Nat) (ok : Bool) (mc : PEnv → R Val) : PEnv → R Flow := fun env =>
  (ma env).bindO oi fun ra env => (mb env).bindO oj fun rb env => (mc env).bindO ok fun rc env => (asgV i oi ra env).thenS fun env => (asgV j oj rb env).thenS fun env => (asgV k ok rc env).thenS skipS
def unpS (g : Tg) (m : PEnv → R Val) : PEnv → R Flow := fun env => (m env).bindF fun r env => match r with
  | .d x => match g x env with
    | some e => .ok .nx e
    | none => .stuck
  | _ => .stuck
section
variable {X : Cx} {fa ca : Str → Addr} {E0 : L2.St → XK} {T : Ent} {C : Cfg} {σ : L2.St} {env env1 env2 : PEnv} {F H F1 H1 F2 H2 : Hp} {v w : V} {Z : Ends}
theorem VRel.pv {r : Val} (h : VRel C.K C.fa σ F v r) : PV C.K C.fa σ H F H1 v r := by
  cases r with
  | new xs => exact h.elim
  | d x => exact h
  | own i => exact h
  | fn f => exact h
theorem PostS.anyF {m : R Flow} (h : PostS C T E0 F Z m) (e : Ex F F1) : PostS C T E0 F1 Z m := h.up e
theorem seqOS {own : Bool} {m : R Val} {f : Val → PEnv → R Flow} {Q' : VK} (loc : Loc C T σ env F H) (h : PostS C T E0 F Z (m.bindO own f))
    (k : ∀ r env1 v F1 H1, Nx C.K C.fa σ env F H env1 F1 H1 → PV C.K C.fa σ H F1 H1 v r → PostS C T E0 F1 Z (f r env1) → Q' v H1) : Post C E0 σ env F H m Q' := by
  cases own with
  | true => exact seqES loc h fun r env1 v F1 H1 n p q => k r env1 v F1 H1 n p (q.up n.adv.fz)
  | false => exact seqFS loc h fun r env1 v F1 H1 n p q => k r env1 v F1 H1 n p.pv q
/-- a value that was reckoned before something else was -/
theorem PV.later {r : Val} (nm : ∀ a, MA env σ a → H a ≠ none) (n1 : Nx C.K C.fa σ env F H env1 F1 H1) (p : PV C.K C.fa σ H F1 H1 v r) (n : Nx C.K C.fa σ env1 F1 H1 env2 F2 H2) : PV C.K C.fa σ H F2 H2 v r := by
  cases r with
  | d x => exact Rp.up (show Rp C.K F1 v x from p) n.adv.fz
  | own i => exact p
  | fn f => exact p
  | new xs =>
    obtain ⟨a, vs, h1, h2, h3, h4, h5⟩ := p
    have na : ¬ MA env1 σ a := fun m => nm a (n1.sub a m) h2
    exact ⟨a, vs, h1, h2, n.adv.keep a _ h3 na, n.adv.fresh a h4 (by rw [h3]; simp) na, h5.up n.adv.fz⟩
theorem MA.set_inv {i : Nat} {s : Slot} {a : Addr} (hi : i < σ.length) (h : MA (env.set i (some s)) (σ.set i (some v)) a) : ((∃ c, s.mut? = some c) ∧ v = .ref a) ∨ MA env σ a := by
  obtain ⟨j, xs, ⟨t, e, hm⟩, q⟩ := h
  rcases getSet e with ⟨z, e2⟩ | ⟨z, e2⟩
  · subst z
    cases e2
    rw [List.getElem?_set_self hi] at q
    cases q
    exact .inl ⟨⟨xs, hm⟩, rfl⟩
  · rw [List.getElem?_set_ne (fun e => z e.symm)] at q
    exact .inr ⟨j, xs, ⟨t, e2, hm⟩, q⟩
/-- a name gets a value that was reckoned at some time before -/
theorem asg_step {i : Nat} {own : Bool} {r : Val} {env' : PEnv} {σ' σ0 : L2.St} {G : Hp} {f : PEnv → R Flow} (loc : Loc C T σ' env' F1 H1) (pv : PV C.K C.fa σ0 G F1 H1 v r) (hn : own = false → ∀ xs, r ≠ .new xs) (fr : ∀ a, v = .ref a → G a = none → ¬ MA env' σ' a ∧ T.H0 a = none)
    (h : PostS C T E0 F1 Z ((asgV i own r env').thenS f)) :
    ∃ s, i < σ'.length ∧ Loc C T (σ'.set i (some v)) (env'.set i (some s)) F1 H1 ∧ PostS C T E0 F1 Z (f (env'.set i (some s))) ∧ ((∃ c, s.mut? = some c) → ∃ xs, r = .new xs) := by
  unfold asgV at h
  cases e : env'[i]? with
  | none => rw [e] at h; exact h.elim
  | some o =>
    have hi : i < env'.length := (List.getElem?_eq_some_iff.mp e).1
    have hiσ : i < σ'.length := by rw [← loc.rel.len]; exact hi
    have nb : ∀ xs, env'[i]? ≠ some (some (.bor xs)) := by
      intro xs q
      rw [q] at h
      exact h.elim
    have h : PostS C T E0 F1 Z ((asgW i own env' r).thenS f) := by
      rw [e] at h
      cases o with
      | none => exact h
      | some s =>
        cases s with
        | bor xs => exact absurd e (nb xs)
        | val x => exact h
        | fn f => exact h
        | set ks => exact h
        | lst xs => exact h
    cases r with
    | d x => exact ⟨.val x, hiσ, loc.set hi nb (fun _ q => by cases q) (show SRel C.K C.fa F1 H1 v (.val x) from pv) (fun _ _ q => nomatch q), h, fun ⟨_, q⟩ => nomatch q⟩
    | fn g => exact ⟨.fn g, hiσ, loc.set hi nb (fun _ q => by cases q) (show SRel C.K C.fa F1 H1 v (.fn g) from pv) (fun _ _ q => nomatch q), h, fun ⟨_, q⟩ => nomatch q⟩
    | own j => exact h.elim
    | new xs =>
      cases own with
      | false => exact absurd rfl (hn rfl xs)
      | true =>
        obtain ⟨a, vs, rfl, h1, h2, h3, h4⟩ := id pv
        refine ⟨.lst xs, hiσ, loc.set hi nb (fun _ q => by cases q) ⟨a, vs, rfl, h2, h3, h4⟩ fun _ b _ q => ?_, h, fun _ => ⟨xs, rfl⟩⟩
        cases q
        exact fr a rfl h1
theorem bindO_new {own : Bool} {r : Val} {f : Val → PEnv → R Flow} {e : PEnv} (h : ∀ xs, own = false → r ≠ .new xs) : True := trivial
end
section
variable {X : Cx} {fa ca : Str → Addr} {E0 : L2.St → XK} {T : Ent}
theorem seqOS' {C : Cfg} {σ : L2.St} {env : PEnv} {F H : Hp} {Z : Ends} {own : Bool} {m : R Val} {f : Val → PEnv → R Flow} {Q' : VK} (loc : Loc C T σ env F H) (h : PostS C T E0 F Z (m.bindO own f))
    (k : ∀ r env1 v F1 H1, Nx C.K C.fa σ env F H env1 F1 H1 → PV C.K C.fa σ H F1 H1 v r → (own = false → ∀ xs, r ≠ .new xs) → PostS C T E0 F1 Z (f r env1) → Q' v H1) : Post C E0 σ env F H m Q' := by
  cases own with
  | true => exact seqES loc h fun r env1 v F1 H1 n p q => k r env1 v F1 H1 n p (fun z => nomatch z) (q.up n.adv.fz)
  | false => exact seqFS loc h fun r env1 v F1 H1 n p q => k r env1 v F1 H1 n p.pv (fun _ xs z => by rw [z] at p; exact p.elim) q
theorem tS_par2 {i j : Nat} {oi oj : Bool} {x y : Str} {a b : Expr} {ma mb : PEnv → R Val} {px py pt pos : Pos} {kt k2 pt2} (hc : X.calm = true) (hN : X.N.Nodup) (hi : X.N[i]? = some x) (hj : X.N[j]? = some y) (hij : i ≠ j)
    (hx : X.env.scope.names.lookup x = some .local) (hy : X.env.scope.names.lookup y = some .local) (ha : PE X a (tR (Cf X fa ca) E0 ma)) (hb : PE X b (tR (Cf X fa ca) E0 mb))
    (hw : swappedStores [.Tuple [.Name x px, .Name y py] kt pt] (.Tuple [a, b] k2 pt2) X.env = pure (some [x, y]))
    (hs : swapsWithSole [.Tuple [.Name x px, .Name y py] kt pt] (.Tuple [a, b] k2 pt2) pos.line X.env = pure false := by rfl)
    (h1 : starEach [a, b] X.env = (false, eval a X.env) :: starEach [b] X.env := by rfl) (h2 : starEach [b] X.env = (false, eval b X.env) :: starEach [] X.env := by rfl) :
    PS X (.Assign [.Tuple [.Name x px, .Name y py] kt pt] (.Tuple [a, b] k2 pt2) pos) (tS (Cf X fa ca) T E0 (par2S i oi ma j oj mb)) := by
  refine PS.weak (ps_par hc hN hi hj hij hx hy (pa_cons ha (pa_cons hb pa_nil h2) h1) hw hs) fun Z σ H ⟨env, F, loc, h⟩ => ?_
  refine ⟨env, F, loc.rel, seqOS' loc h fun ra env1 v F1 H1 n1 p1 q1 k1 => ⟨env1, F1, n1.rel, seqOS' (loc.nx n1) k1 fun rb env2 w F2 H2 n2 p2 q2 k2 => ⟨v, w, rfl, ?_⟩⟩⟩
  have l2 := (loc.nx n1).nx n2
  have p1' := PV.later loc.rel.nm n1 p1 n2
  obtain ⟨s, hi', l3, k3, m3⟩ := asg_step l2 p1' q1 (fun a ea ha => ⟨fun m => loc.rel.nm a (n1.sub a (n2.sub a m)) ha, loc.dom ha⟩) k2
  obtain ⟨t, hj', l4, k4, m4⟩ := asg_step l3 p2 q2 (fun b eb hb => ⟨fun m => by
    rcases MA.set_inv hi' m with ⟨mm, ev⟩ | m
    · obtain ⟨xs, er⟩ := m3 mm
      subst er
      obtain ⟨a', vs, ea, _, g1, _⟩ := p1
      rw [ev] at ea
      cases ea
      rw [hb] at g1
      cases g1
    · exact n1.rel.nm b (n2.sub b m) hb, (loc.nx n1).dom hb⟩) k3
  exact k4 _ F2 H2 l4 (Evl.Ex.refl _)
theorem tS_par3 {i j l : Nat} {oi oj ol : Bool} {x y z : Str} {a b c : Expr} {ma mb mc : PEnv → R Val} {px py pz pt pos : Pos} {kt k2 pt2} (hc : X.calm = true) (hN : X.N.Nodup) (hi : X.N[i]? = some x) (hj : X.N[j]? = some y) (hl : X.N[l]? = some z) (hij : i ≠ j) (hil : i ≠ l) (hjl : j ≠ l)
    (hx : X.env.scope.names.lookup x = some .local) (hy : X.env.scope.names.lookup y = some .local) (hz : X.env.scope.names.lookup z = some .local) (ha : PE X a (tR (Cf X fa ca) E0 ma)) (hb : PE X b (tR (Cf X fa ca) E0 mb)) (hcc : PE X c (tR (Cf X fa ca) E0 mc))
    (hw : swappedStores [.Tuple [.Name x px, .Name y py, .Name z pz] kt pt] (.Tuple [a, b, c] k2 pt2) X.env = pure (some [x, y, z]))
    (hs : swapsWithSole [.Tuple [.Name x px, .Name y py, .Name z pz] kt pt] (.Tuple [a, b, c] k2 pt2) pos.line X.env = pure false := by rfl)
    (h1 : starEach [a, b, c] X.env = (false, eval a X.env) :: starEach [b, c] X.env := by rfl) (h2 : starEach [b, c] X.env = (false, eval b X.env) :: starEach [c] X.env := by rfl) (h3 : starEach [c] X.env = (false, eval c X.env) :: starEach [] X.env := by rfl) :
    PS X (.Assign [.Tuple [.Name x px, .Name y py, .Name z pz] kt pt] (.Tuple [a, b, c] k2 pt2) pos) (tS (Cf X fa ca) T E0 (par3S i oi ma j oj mb l ol mc)) := by
  refine PS.weak (ps_par3 hc hN hi hj hl hij hil hjl hx hy hz (pa_cons ha (pa_cons hb (pa_cons hcc pa_nil h3) h2) h1) hw hs) fun Z σ H ⟨env, F, loc, h⟩ => ?_
  refine ⟨env, F, loc.rel, seqOS' loc h fun ra env1 u F1 H1 n1 p1 q1 k1 => ⟨env1, F1, n1.rel, seqOS' (loc.nx n1) k1 fun rb env2 v F2 H2 n2 p2 q2 k2 => ⟨env2, F2, n2.rel, seqOS' ((loc.nx n1).nx n2) k2 fun rc env3 w F3 H3 n3 p3 q3 k3 => ⟨u, v, w, rfl, ?_⟩⟩⟩⟩
  have l3 := ((loc.nx n1).nx n2).nx n3
  have p2' := PV.later n1.rel.nm n2 p2 n3
  have p1' := PV.later loc.rel.nm n1 p1 (n2.trans n3)
  obtain ⟨s1, hi', l4, k4, m4⟩ := asg_step l3 p1' q1 (fun a ea ha => ⟨fun m => loc.rel.nm a (n1.sub a (n2.sub a (n3.sub a m))) ha, loc.dom ha⟩) k3
  have p1n : ∀ b, (∃ xs, ra = .new xs) → u = .ref b → H1 b ≠ none := fun b ⟨xs, er⟩ eu => by
    subst er
    obtain ⟨a', vs, ea, _, g1, _⟩ := p1
    rw [eu] at ea
    cases ea
    rw [g1]; simp
  have p2n : ∀ b, (∃ xs, rb = .new xs) → v = .ref b → H2 b ≠ none := fun b ⟨xs, er⟩ eu => by
    subst er
    obtain ⟨a', vs, ea, _, g1, _⟩ := p2
    rw [eu] at ea
    cases ea
    rw [g1]; simp
  have dom12 : ∀ b, H2 b = none → H1 b = none := fun b hb => by
    cases q : H1 b with
    | none => rfl
    | some o => exact absurd hb (n2.adv.dom b (by rw [q]; simp))
  obtain ⟨s2, hj', l5, k5, m5⟩ := asg_step l4 p2' q2 (fun b eb hb => ⟨fun m => by
    rcases MA.set_inv hi' m with ⟨mm, ev⟩ | m
    · exact p1n b (m4 mm) ev hb
    · exact n1.rel.nm b (n2.sub b (n3.sub b m)) hb, (loc.nx n1).dom hb⟩) k4
  obtain ⟨s3, hl', l6, k6, m6⟩ := asg_step l5 p3 q3 (fun b eb hb => ⟨fun m => by
    rcases MA.set_inv hj' m with ⟨mm, ev⟩ | m
    · exact p2n b (m5 mm) ev hb
    · rcases MA.set_inv hi' m with ⟨mm, ev⟩ | m
      · exact p1n b (m4 mm) ev (dom12 b hb)
      · exact n2.rel.nm b (n3.sub b m) hb, ((loc.nx n1).nx n2).dom hb⟩) k5
  exact k6 _ F3 H3 l6 (Evl.Ex.refl _)
/-- a, b, .. = e -/
theorem tS_unp {js : List Nat} {g : Tg} {tg e : Expr} {m : PEnv → R Val} {pos : Pos} (he : PE X e (tR (Cf X fa ca) E0 m)) (hg : PG X tg (tG (Cf X fa ca) js g))
    (hs : swapsWithSole [tg] e pos.line X.env = pure false := by rfl) (hw : swappedStores [tg] e X.env = pure none := by rfl) (h1 : (assignEach [tg] X.env).map (·.2) = [assign tg X.env] := by rfl) : PS X (.Assign [tg] e pos) (tS (Cf X fa ca) T E0 (unpS g m)) := by
  refine PS.weak (ps_asg he hg hs hw h1) fun Z σ H ⟨env, F, loc, h⟩ => ⟨env, F, loc.rel, seqFS loc h fun r env1 v F1 H1 n vr h1 => ?_⟩
  cases r with
  | d x =>
    dsimp only at h1
    refine ⟨env1, F1, x, n.rel, vr, ?_⟩
    cases eg : g x env1 with
    | none => rw [eg] at h1; exact h1.elim
    | some e2 =>
      rw [eg] at h1
      exact fun σ2 rel2 t2 => h1 σ2 F1 H1 ((loc.nx n).tset rel2 t2) (Evl.Ex.refl _)
  | _ => exact h1.elim
end
end Pi


set_option Elab.async false
set_option linter.all false
set_option maxRecDepth 100000
set_option autoImplicit false
/-! Pi17: errors of the program's own classes -/
namespace Pi
open PySem PySem.Spec PyProof.Rows L2

/-! ### __init__ of the classes -/
/-- a def of the class at C0, read off the class -/
structure ClsFn (K : Kf) (C0 f : Addr) (m : Str) : Prop where
  ga : PySem.W.specialIn K (.ref C0) "__getattribute__" = some (some (.builtin "type.__getattribute__"))
  rd : PySem.W.readsIn K C0 (.type "type") = true
  at_ : PySem.W.findCls K (.ref C0) (.type "type") m = some (.val (.ref f))
  hd : PySem.W.handedIn (.ref f) = true
  kp : PySem.W.keepIn K (.ref f) = true
section
variable {X : Cx} {CX : CXT} {k : Nat} {C0 f : Addr} {fd : FuncData} {ps : List Str} {sp : Sp} {E : XK} {x m : Str} {p1 p2 pos : Pos} {e : Expr} {es : List Expr} {t : TA}
/-- C.m(e, ..), C a class of the program -/
theorem pe_clsfn {pl : Sem Bool} (c : ClsFn X.K C0 f m) (F : FnOk X.prog X.w X.K X.mg X.base CX k f fd ps sp) (hr : Room k X.A) (hb : Binds X.K fd ps []) (hx : Passes CX X E) (hg : Gl X x) (hm : X.mg x = some (.ref C0)) (ha : PA X (e :: es) t) (hdb : (x == ("__debug__" : Str)) = false := by decide)
    (hc : eval (.Call (.Attribute (.Name x p1) m p2) (e :: es) [] pos) X.env = (do
      let ov ← eval (.Name x p1) X.env
      standAt p2.atName
      let (f, first) ← holding [ov] (getMethod ov m pl)
      callWith pos f first (backTo pos (starEach (e :: es) X.env)) (backToKw pos (keywordEach [] X.env))) := by rfl)
    (he : starEach (e :: es) X.env = (false, eval e X.env) :: starEach es X.env := by rfl) (hpl : (backTo pos (starEach es X.env)).any (·.1) = false := by rfl) :
    PE X (.Call (.Attribute (.Name x p1) m p2) (e :: es) [] pos) (fun σ H Q => t σ H fun vs H1 => sp vs H1 Q E) := by
  refine ⟨fun pins s σ H Q I h => ?_⟩
  refine PySem.W.methodCall_KW (ld_glob I hg hm ?_ hdb) hc
  refine PySem.W.method_cls I.kIn c.ga (PySem.W.cls_value I.kIn c.rd c.at_ c.hd ?_)
  refine PySem.W.callWith_K (h₀ := X.base) I.ok.mod.kin c.kp (thn (ha.run pos pins _ σ H _ (I.tok _) h) fun us s1 ⟨vs, H1, I1, va, q⟩ => ⟨I1.kIn, ?_⟩) he hpl
  exact run_fn (dvs := []) F hr hb .nil hx I1 va (by rw [List.append_nil]; exact q)
end
/-- ProbeError.__init__(self) -/
def spI0 (K : Kf) : Sp := fun vs H Q _ => ∃ a C, vs = [.ref a] ∧ OexC K C ∧ H a = some (exo a C none) ∧ Q .non H
/-- C.__init__(self, value) -/
def spI1 (K : Kf) : Sp := fun vs H Q _ => ∃ a C v, vs = [.ref a, v] ∧ OexC K C ∧ PySem.W.findIn K (.ref C) "value" = some none ∧ H a = some (exo a C none) ∧ ∀ dx, H dx = none → dx ≠ a → Q .non (upd (upd H dx (exd dx [("value", v)])) a (exo a C (some dx)))
/-- what the text must say of a class of errors with one field -/
structure ErrC (X : Cx) (c : Str) (C fI : Addr) (fd : FuncData) : Prop where
  T : OexC X.K C
  iC : PySem.W.findIn X.K (.ref C) "__init__" = some (some (.ref fI))
  tI : PySem.W.typeIn X.K (.ref fI) = some (.type "function")
  no : PySem.W.findIn X.K (.ref C) "value" = some none
  F1 : FnOk X.prog X.w X.K X.mg X.base (L2.CX X.prog X.w) 2 fI fd ["self", "value"] (spI1 X.K)
  bd : Binds X.K fd ["self", "value"] []
  gl : X.mg c = some (.ref C)
def raiseS (c : Str) (m : PEnv → R Val) : PEnv → R Flow := fun env => (m env).bindF fun r env => match r with
  | .d x => .exc c (some x) env
  | _ => .stuck
theorem upd_raise {H : Hp} {a d C : Addr} {fs : List (Str × V)} (ha : H a = none) (hd : d ≠ a) : upd (del (upd (upd (upd H a (exo a C none)) d (exd d fs)) a (exo a C (some d))) a) d (.xd fs) = upd H d (.xd fs) := by
  funext b
  by_cases z : b = d
  · subst z; rw [upd_same, upd_same]
  · rw [upd_ne z, upd_ne z]
    by_cases y : b = a
    · subst y; rw [del_same, ha]
    · rw [del_ne y, upd_ne y, upd_ne z, upd_ne y]
section
variable {X : Cx} {fa ca : Str → Addr} {T : Ent} {W : WX}
theorem tS_raise {c : Str} {fI : Addr} {fd : FuncData} {e : Expr} {m : PEnv → R Val} {p pos pos2 : Pos} (hc : X.calm = true) (tk : Takes X W) (ec : ErrC X c (ca c) fI fd) (hr : Room 3 X.A) (hx : Passes (L2.CX X.prog X.w) X (fun _ _ _ => False)) (hg : Gl X c) (he : PE X e (tR (Cf X fa ca) (WE W) m))
    (hdb : (c == ("__debug__" : Str)) = false := by decide) (hs : starEach (e :: []) X.env = (false, eval e X.env) :: starEach [] X.env := by rfl) (hpl : (backTo pos (starEach [] X.env)).any (·.1) = false := by rfl) :
    PS X (.Raise (some (.Call (.Name c p) [e] [] pos)) none pos2) (tS (Cf X fa ca) T (WE W) (raiseS c m)) := by
  refine PS.weak (ps_raise hc tk (pmk_oex (dvs := []) (ds := []) ec.T ec.iC ec.tI ec.F1 hr ec.bd .nil hx hg ec.gl (pa_cons he pa_nil hs) hdb hs hpl)) fun Z σ H ⟨env, F, loc, h⟩ => ?_
  refine ⟨env, F, loc.rel, seqFS loc h fun r env1 v F1 H1 n vr h1 => ⟨by simp, fun a ha => ?_⟩⟩
  cases r with
  | d x =>
    refine ⟨a, ca c, v, rfl, ec.T, ec.no, upd_same, fun dx hdx hne => ⟨rfl, dx, _, upd_same, by rw [upd_ne hne, upd_same], ?_, ?_⟩⟩
    · rw [upd_ne hne] at hdx; exact hdx
    · have hdx' : H1 dx = none := by rw [upd_ne hne] at hdx; exact hdx
      rw [upd_raise ha hne]
      have nl := n.rel.laid (o := .xd [("value", v)]) hdx'
      have h1 : PostS (Cf X fa ca) T (WE W) F1 Z (.exc c (some x) env1) := h1
      exact h1 (some dx) σ _ _ ((loc.nx n).nx nl) nl.adv.fz ⟨dx, [("value", v)], rfl, upd_same, v, by simp [List.lookup], (show Rp X.K F1 v x from vr).up nl.adv.fz⟩
  | _ => exact h1.elim
end
end Pi


set_option Elab.async false
set_option linter.all false
set_option maxRecDepth 100000
set_option autoImplicit false
/-! Pi18: try .. except C as n: t = [n.value] -/
namespace Pi
open PySem PySem.Spec PyProof.Rows L2

def boxD (tup : Bool) (x : D) : D := if tup then .tuple [x] else .list [x]
def caughtS (tup : Bool) (i j : Nat) (x : D) (env : PEnv) : R Flow := match env[i]?, env[j]? with
  | some none, some (some (.val _)) => .ok .nx (env.set j (some (.val (boxD tup x))))
  | some none, some none => .ok .nx (env.set j (some (.val (boxD tup x))))
  | _, _ => .stuck
def tryS (tup : Bool) (mb : PEnv → R Flow) (c : Str) (i j : Nat) : PEnv → R Flow := fun env => match mb env with
  | .exc c' (some x) env' => if c' = c then caughtS tup i j x env' else .stuck
  | .exc _ none _ => .stuck
  | r => r
section
variable {C : Cfg} {T : Ent} {σ : L2.St} {env : PEnv} {F H : Hp}
theorem Loc.free (l : Loc C T σ env F H) {i : Nat} (e : env[i]? = some none) (o : Option V) : Loc C T (σ.set i o) env F H := by
  have ne : ∀ {j : Nat} {s : Slot}, env[j]? = some (some s) → j ≠ i := fun h z => by rw [z, e] at h; cases h
  have nm : ∀ {j : Nat} {c : Mc}, Mu env j c → j ≠ i := fun ⟨s, h, _⟩ => ne h
  refine ⟨⟨l.rel.ex, by rw [List.length_set]; exact l.rel.len, fun j s h => ?_, fun j k xs ys hne m1 m2 => ?_⟩, l.adv, fun a ⟨j, xs, m, q⟩ => ?_, fun p hp => ?_⟩
  · rw [List.getElem?_set_ne (fun z => ne h z.symm)]; exact l.rel.at_ j s h
  · rw [List.getElem?_set_ne (fun z => nm m1 z.symm), List.getElem?_set_ne (fun z => nm m2 z.symm)]
    exact l.rel.dis j k xs ys hne m1 m2
  · rw [List.getElem?_set_ne (fun z => nm m z.symm)] at q
    exact l.own a ⟨j, xs, m, q⟩
  · obtain ⟨h1, xs, h2⟩ := l.bor p hp
    exact ⟨by rw [List.getElem?_set_ne (fun z => ne h2 z.symm)]; exact h1, xs, h2⟩
/-- what an error class must have for its field to be read -/
structure ErrF (K : Kf) (C : Addr) : Prop where
  xf : XfC K C
  no : PySem.W.findIn K (.ref C) "value" = some none
  self : PySem.W.exmOne K (.ref C) (.ref C) = some true
end
section
variable {X : Cx} {fa ca : Str → Addr} {T : Ent} {Wout : WX}
def tSuite (fa ca : Str → Addr) (X : Cx) (T : Ent) (tup : Bool) (c : Str) (i j : Nat) (a : Addr) (cls : Value) (d : Option Addr) : TS := fun Z σ H => ∃ x env F, cls = .ref (ca c) ∧ XR X.K F H d (some x) ∧ env[i]? = some none ∧ Loc (Cf X fa ca) T σ env F H ∧ σ[i]? = some (some (.ref a)) ∧
  PostS (Cf X fa ca) T noE F Z (caughtS tup i j x env)
theorem tS_suite {tup : Bool} {c n t : Str} {i j : Nat} {a : Addr} {oe : Obj} {cls : Value} {d : Option Addr} {pn : List (Addr × Obj)} {e : Expr} {pt pos : Pos} {te : TE} (hN : X.N.Nodup) (hi : X.N[i]? = some n) (hj : X.N[j]? = some t) (hij : i ≠ j)
    (hlt : L2.Loc X.env.scope t) (hf : X.fn t = true ∨ X.env.scope.names.lookup t = some .local)
    (he : PE (X.suite a ((a, oe) :: pn)) e te) (hs : swapsWith e (some (.Name t pt)) pos.line X.env = pure false)
    (hte : ∀ σ H Q x F, cls = .ref (ca c) → XR X.K F H d (some x) → Ex F H → σ[i]? = some (some (.ref a)) → (∀ p o v, H p = none → Rp X.K F v x → o = (if tup then HO.tup [v] else HO.lst [v]) → Q (.ref p) (upd H p o)) → te σ H Q) :
    PS (X.suite a ((a, oe) :: pn)) (.Assign [.Name t pt] e pos) (tSuite fa ca X T tup c i j a cls d) := by
  refine PS.weak (ps_set (X := X.suite a ((a, oe) :: pn)) hN hj hlt he hs hf) fun Z σ H ⟨x, env, F, ec, xr, ei, loc, hσ, h⟩ => ?_
  refine hte σ H _ x F ec xr loc.rel.ex hσ fun p o v hp rv eo => ?_
  have key : ∃ s, env[j]? = some s ∧ (∀ xs, env[j]? ≠ some (some (.bor xs))) ∧ PostS (Cf X fa ca) T noE F Z (.ok .nx (env.set j (some (.val (boxD tup x))))) := by
    unfold caughtS at h
    rw [ei] at h
    cases ej : env[j]? with
    | none => rw [ej] at h; exact h.elim
    | some s =>
      rw [ej] at h
      cases s with
      | none => exact ⟨_, rfl, (fun xs q => by cases q), h⟩
      | some s =>
        cases s with
        | val y => exact ⟨_, rfl, (fun xs q => by cases q), h⟩
        | _ => exact h.elim
  obtain ⟨s, ej, nb, h⟩ := key
  have hl : j < env.length := (List.getElem?_eq_some_iff.mp ej).1
  have fp : F p = none := by
    cases q : F p with
    | none => rfl
    | some u => rw [loc.rel.ex p u q] at hp; cases hp
  have nl := loc.rel.laid (o := o) hp
  have rp : Rp X.K (upd F p o) (.ref p) (boxD tup x) := by
    subst eo
    have rv' := rv.up (Evl.Ex.new (o := (if tup then HO.tup [v] else HO.lst [v])) fp)
    cases tup with
    | true => exact .tup (Evl.st_of upd_same) (.cons rv' .nil)
    | false => exact .lst (Evl.sq_of upd_same) (.cons rv' .nil)
  exact h _ _ _ ((loc.nx nl).set hl nb (fun _ q => by cases q) (show SRel X.K (Cf X fa ca).fa (upd F p o) (upd H p o) (.ref p) (.val (boxD tup x)) from rp) (fun _ _ q => nomatch q)) nl.adv.fz
theorem tS_try {tup : Bool} {c n t : Str} {i j : Nat} {body : List Stmt} {st : Stmt} {mb : PEnv → R Flow} {np pos pos' : Pos} (hs : X.stack = X.env :: X.outer) (hf : X.env.frame = some X.env.locals) (hN : X.N.Nodup) (hi : X.N[i]? = some n) (hln : X.env.kindOf n = some .local) (hg : Gl X c) (hgc : X.mg c = some (.ref (ca c))) (ef : ErrF X.K (ca c)) (tk : Takes X Wout) (hij : i ≠ j)
    (hb : ∀ (W : WX) (pn : List (Addr × Obj)) (xe : Value → Shared → Prop), Takes (X.tr pn xe) W → PassesOwn (model X.prog X.w) X.A X.env xe → PSs (X.tr pn xe) body (tS (Cf X fa ca) T (WE W) mb))
    (hsu : ∀ (a : Addr) (oe : Obj) (cls : Value) (d : Option Addr) (pn : List (Addr × Obj)), Zc cls d oe → (∃ vs, oe.data = .fields vs) → PS (X.suite a ((a, oe) :: pn)) st (tSuite fa ca X T tup c i j a cls d))
    (hd : (c == ("__debug__" : Str)) = false := by decide) :
    PS X (.Try body [.ExceptHandler (some (.Name c np)) (some n) [st] pos'] [] [] pos) (tS (Cf X fa ca) T (WE Wout) (tryS tup mb c i j)) := by
  refine PS.weak (ps_try_as hs hf hN hi hln ⟨hg, hd, .inl hgc⟩ tk hb fun a oe cls d pn z1 z2 => pss_one (hsu a oe cls d pn z1 z2)) fun Z σ H ⟨env, F, loc, h⟩ => ⟨env, F, loc, ?_⟩
  unfold tryS at h
  cases em : mb env with
  | stuck => rw [em] at h; exact h.elim
  | ok f e1 => rw [em] at h; cases f <;> exact h
  | exc c' x e1 =>
    rw [em] at h
    cases x with
    | none => exact h.elim
    | some x =>
      dsimp only at h
      by_cases z : c' = c
      · rw [if_pos z] at h
        subst z
        intro d σ' F' H' l ex xr
        refine ⟨true, ef.self, fun _ a ha => ?_, fun q => nomatch q⟩
        have ei : e1[i]? = some none := by
          unfold caughtS at h
          cases q : e1[i]? with
          | none => rw [q] at h; exact h.elim
          | some o =>
            cases o with
            | none => rfl
            | some s => rw [q] at h; exact h.elim
        have hl : i < σ'.length := by
          have := (List.getElem?_eq_some_iff.mp ei).1
          rwa [l.rel.len] at this
        refine ⟨x, e1, F', rfl, xr, ei, l.free ei _, List.getElem?_set_self hl, ?_⟩
        have h := h.up ex
        unfold caughtS at h ⊢
        rw [ei] at h ⊢
        have fin : ∀ env2 : PEnv, env2[i]? = some none → PostS (Cf X fa ca) T (WE Wout) F' Z (.ok .nx env2) → PostS (Cf X fa ca) T noE F' { nx := fun σ' H' => Z.nx (σ'.set i none) H', rt := Z.rt, bk := fun σ' H' => Z.bk (σ'.set i none) H', ct := fun σ' H' => Z.ct (σ'.set i none) H' } (.ok .nx env2) :=
          fun env2 e2 h2 σ2 F2 H2 l2 x2 => h2 (σ2.set i none) F2 H2 (l2.free e2 none) x2
        have ne2 : ∀ s, (e1.set j s)[i]? = some none := fun s => by rw [List.getElem?_set_ne (fun z => hij z.symm)]; exact ei
        cases ej : e1[j]? with
        | none => rw [ej] at h; exact h.elim
        | some s =>
          rw [ej] at h
          cases s with
          | none => exact fin _ (ne2 _) h
          | some s =>
            cases s with
            | val y => exact fin _ (ne2 _) h
            | _ => exact h.elim
      · rw [if_neg z] at h; exact h.elim
/-- t = [n.value] -/
theorem tS_suiteL {c n t : Str} {i j : Nat} {a : Addr} {oe : Obj} {cls : Value} {d : Option Addr} {pn : List (Addr × Obj)} {pt pos pn' pa pl : Pos} (hN : X.N.Nodup) (hi : X.N[i]? = some n) (hj : X.N[j]? = some t) (hij : i ≠ j) (hlt : L2.Loc X.env.scope t) (hf : X.fn t = true ∨ X.env.scope.names.lookup t = some .local)
    (ef : ErrF X.K (ca c)) (hv : Vis X.env.scope n) (hz : Zc cls d oe) (hfl : ∃ vs, oe.data = .fields vs) (hd : (n == ("__debug__" : Str)) = false := by decide) (hcd : (n == ("__classdict__" : Str)) = false := by decide)
    (hb : attributeBase (.Name n pn') "value" X.env (eval (.Name n pn') X.env) = eval (.Name n pn') X.env := by rfl)
    (hst : starEach [.Attribute (.Name n pn') "value" pa] X.env = (false, eval (.Attribute (.Name n pn') "value" pa) X.env) :: starEach [] X.env := by rfl)
    (hs : swapsWith (.List [.Attribute (.Name n pn') "value" pa] pl) (some (.Name t pt)) pos.line X.env = pure false := by rfl) :
    PS (X.suite a ((a, oe) :: pn)) (.Assign [.Name t pt] (.List [.Attribute (.Name n pn') "value" pa] pl) pos) (tSuite fa ca X T false c i j a cls d) := by
  refine tS_suite hN hi hj hij hlt hf (pe_lst (X := X.suite a ((a, oe) :: pn)) (pa_cons (pe_xf ef.xf ef.no hz hfl (pe_var (X := X.suite a ((a, oe) :: pn)) hi hv hd hcd) hb) pa_nil hst)) hs fun σ H Q x F ec xr ex hσ k => ?_
  obtain ⟨dd, fs, ed, hF, v, hv, rv⟩ := xr
  exact ⟨_, hσ, rfl, ec, dd, fs, v, ed, ex _ _ hF, hv, (by show 1 ≤ sizeLine; decide), fun p hp => k p _ v hp rv rfl⟩
/-- t = (n.value,) -/
theorem tS_suiteT {c n t : Str} {i j kk : Nat} {a : Addr} {oe : Obj} {cls : Value} {d : Option Addr} {pn : List (Addr × Obj)} {pt pos pn' pa pl : Pos} (hN : X.N.Nodup) (hi : X.N[i]? = some n) (hj : X.N[j]? = some t) (hij : i ≠ j) (hlt : L2.Loc X.env.scope t) (hf : X.fn t = true ∨ X.env.scope.names.lookup t = some .local)
    (ef : ErrF X.K (ca c)) (hv : Vis X.env.scope n) (hz : Zc cls d oe) (hfl : ∃ vs, oe.data = .fields vs) (hd : (n == ("__debug__" : Str)) = false := by decide) (hcd : (n == ("__classdict__" : Str)) = false := by decide)
    (hb : attributeBase (.Name n pn') "value" X.env (eval (.Name n pn') X.env) = eval (.Name n pn') X.env := by rfl)
    (hst : starEach [.Attribute (.Name n pn') "value" pa] X.env = (false, eval (.Attribute (.Name n pn') "value" pa) X.env) :: starEach [] X.env := by rfl)
    (hs : swapsWith (.Tuple [.Attribute (.Name n pn') "value" pa] kk pl) (some (.Name t pt)) pos.line X.env = pure false := by rfl) :
    PS (X.suite a ((a, oe) :: pn)) (.Assign [.Name t pt] (.Tuple [.Attribute (.Name n pn') "value" pa] kk pl) pos) (tSuite fa ca X T true c i j a cls d) := by
  refine tS_suite hN hi hj hij hlt hf (pe_tup (X := X.suite a ((a, oe) :: pn)) (pa_cons (pe_xf ef.xf ef.no hz hfl (pe_var (X := X.suite a ((a, oe) :: pn)) hi hv hd hcd) hb) pa_nil hst)) hs fun σ H Q x F ec xr ex hσ k => ?_
  obtain ⟨dd, fs, ed, hF, v, hv, rv⟩ := xr
  exact ⟨_, hσ, rfl, ec, dd, fs, v, ed, ex _ _ hF, hv, (by show 1 ≤ sizeLine; decide), fun p hp => k p _ v hp rv rfl⟩
end
end Pi


set_option Elab.async false
set_option linter.all false
set_option maxRecDepth 100000
set_option autoImplicit false
/-! Pi19: calls of a name that holds a def, calls by keywords, calls without arguments -/
namespace Pi
open PySem PySem.Spec PyProof.Rows L2

theorem FnG.mono {P : Program} {w : World} {K : Kf} {mg : Str → Option Value} {base : Heap} {CX : CXT} {j k : Nat} {f : Addr} {fd : FuncData} {ps : List Str} {sp : Sp} (G : FnG P w K mg base CX j f fd ps sp) (h : j ≤ k) : FnG P w K mg base CX k f fd ps sp :=
  ⟨G.len, fun A outer s H args us vs Q E hr => G.run A outer s H args us vs Q E (hr.mono h)⟩
/-- a def of the program as data: its promise -/
structure DefOk (P : Program) (w : World) (K : Kf) (mg : Str → Option Value) (base : Heap) (fa ca : Str → Addr) (k : Nat) (x : Str) (np : Nat) (f : Fn) : Prop where
  ex : ∃ fd ps, FnG P w K mg base (L2.CX P w) k (fa x) fd ps (spOf ⟨K, ⟨fa, P, w⟩, ca⟩ f) ∧ PySem.W.keepIn K (.ref (fa x)) = true ∧ Binds K fd ps [] ∧ mg x = some (.ref (fa x)) ∧ ps.length = np

def callLE (i : Nat) (tbl : Str → Option Fn) (ms : PEnv → R (List Val)) : PEnv → R Val := fun env => match env[i]? with
  | some (some (.fn f)) => match tbl f with
    | some fn => (ms env).bind (callV fn)
    | none => .stuck
  | _ => .stuck
section
variable {X : Cx} {fa ca : Str → Addr} {E0 : L2.St → XK} {k : Nat} {x : Str} {p pos : Pos} {e : Expr} {es : List Expr} {f : Fn} {ms : PEnv → R (List Val)} {np : Nat}
/-- f(e, ..) -/
theorem e_callD (G : DefOk X.prog X.w X.K X.mg X.base fa ca k x np f) (room : Room k X.A) (gd : X.A.guards = some []) (hg : Gl X x) (hp : ∀ σ, PassesAt (L2.CX X.prog X.w) X σ (E0 σ)) (ha : PA X (e :: es) (tRA (Cf X fa ca) E0 ms)) (hdb : (x == ("__debug__" : Str)) = false := by decide)
    (he : starEach (e :: es) X.env = (false, eval e X.env) :: starEach es X.env := by rfl) (hpl : (backTo pos (starEach es X.env)).any (·.1) = false := by rfl) :
    PE X (.Call (.Name x p) (e :: es) [] pos) (tR (Cf X fa ca) E0 (callE f ms)) := by
  obtain ⟨fd, ps, G, hk, bd, hm, _⟩ := G.ex
  exact e_call G room gd hg hm hk bd hp ha hdb he hpl
/-- g(e, ..), g a name that holds a def -/
theorem e_callL {i : Nat} {tbl : Str → Option Fn} (A : ∀ f fn, tbl f = some fn → ∃ np, DefOk X.prog X.w X.K X.mg X.base fa ca k f np fn) (room : Room k X.A) (gd : X.A.guards = some []) (hN : X.N[i]? = some x) (hv : Vis X.env.scope x) (hp : ∀ σ, PassesAt (L2.CX X.prog X.w) X σ (E0 σ)) (ha : PA X (e :: es) (tRA (Cf X fa ca) E0 ms))
    (hdb : (x == ("__debug__" : Str)) = false := by decide) (hcd : (x == ("__classdict__" : Str)) = false := by decide)
    (he : starEach (e :: es) X.env = (false, eval e X.env) :: starEach es X.env := by rfl) (hpl : (backTo pos (starEach es X.env)).any (·.1) = false := by rfl) :
    PE X (.Call (.Name x p) (e :: es) [] pos) (tR (Cf X fa ca) E0 (callLE i tbl ms)) := by
  refine ⟨fun pins s σ H Q I h => ?_⟩
  obtain ⟨env, F, rel, h⟩ := h
  unfold callLE at h
  cases ei : env[i]? with
  | none => rw [ei] at h; exact h.elim
  | some o =>
    cases o with
    | none => rw [ei] at h; exact h.elim
    | some s0 =>
      rw [ei] at h
      cases s0 with
      | fn g =>
        dsimp only at h
        cases et : tbl g with
        | none => rw [et] at h; exact h.elim
        | some fn =>
          rw [et] at h
          obtain ⟨np, D⟩ := A g fn et
          obtain ⟨fd, ps, G, hk, bd, hm, _⟩ := D.ex
          obtain ⟨v, hv', hs⟩ := rel.at_ i _ ei
          have hs : v = .ref (fa g) := hs
          subst hs
          refine wpAny_Call_Name_kw (thn ((pe_var (pos := p) hN hv hdb hcd).run pins s σ H (fun v H1 => v = .ref (fa g) ∧ H1 = H) I ⟨.ref (fa g), hv', rfl, rfl⟩) fun u s1 ⟨v, H1, I1, r1, q1⟩ => ?_)
          obtain ⟨rfl, rfl⟩ := q1
          cases r1
          refine PySem.W.callWith_K (h₀ := X.base) I.ok.mod.kin hk (thn (ha.run pos pins s1 σ _ (fun vs H2 => spOf (Cf X fa ca) fn vs H2 Q (E0 σ)) I1 ⟨env, F, rel, seqLE h fun rs env1 vs F1 H1 n vrs h1 => callV_sp n.rel vrs h1⟩) fun us s2 ⟨vs, H2, I2, r, q⟩ => ⟨I2.kIn, ?_⟩) he hpl
          exact runG G room gd bd (dvs := []) .nil (hp σ) I2 r (by rw [List.append_nil]; exact q)
      | _ => exact h.elim

/-! ### by keywords -/
def permL {α : Type} (pm : List Nat) (xs : List α) (z : α) : List α := pm.map fun i => xs.getD i z
/-- f(k = e, ..) puts the values in the parameters' order -/
def KwB (K : Kf) (fd : FuncData) (ps ks : List Str) (pm : List Nat) : Prop := ∀ (s : Shared) (ws : List Value), K.In s.heap → ws.length = ks.length → BindsTo s fd ⟨[], ks.zip ws⟩ (ps.zip (permL pm ws .none))
def callKE (f : Fn) (pm : List Nat) (ms : PEnv → R (List Val)) : PEnv → R Val := fun env => (ms env).bind fun rs env => callV f (permL pm rs (.d .none)) env
theorem VRelA.getD {K : Kf} {fa : Fs} {σ : L2.St} {F : Hp} {vs : List V} {rs : List Val} (h : VRelA K fa σ F vs rs) : ∀ i, VRel K fa σ F (vs.getD i .non) (rs.getD i (.d .none)) := by
  induction h with
  | nil => intro i; exact Rp.non
  | cons a _ ih => intro i; cases i with
    | zero => exact a
    | succ i => simpa using ih i
theorem VRelA.perm {K : Kf} {fa : Fs} {σ : L2.St} {F : Hp} {vs : List V} {rs : List Val} (h : VRelA K fa σ F vs rs) : ∀ pm : List Nat, VRelA K fa σ F (permL pm vs .non) (permL pm rs (.d .none))
  | [] => .nil
  | i :: pm => .cons (h.getD i) (h.perm pm)
theorem Vals.getD' {vs : List V} {us : List Value} (h : Vals vs us) : ∀ i, RelV (vs.getD i .non) (us.getD i .none) := by
  induction h with
  | nil => intro i; exact rfl
  | cons a _ ih => intro i; cases i with
    | zero => exact a
    | succ i => simpa using ih i
theorem Vals.perm {vs : List V} {us : List Value} (h : Vals vs us) : ∀ pm : List Nat, Vals (permL pm vs .non) (permL pm us .none)
  | [] => .nil
  | i :: pm => .cons (Vals.getD' h i) (Vals.perm h pm)
theorem runGK {CX : CXT} {fd : FuncData} {ps ks : List Str} {sp : Sp} {fad : Addr} {E : L2.St → XK} {pm : List Nat} {pins : List (Addr × Obj)} {σ : L2.St} {H : Hp} {s : Shared} {Q : VK} {ws : List Value} {vs : List V} (G : FnG X.prog X.w X.K X.mg X.base CX k fad fd ps sp) (room : Room k X.A) (gd : X.A.guards = some []) (bd : KwB X.K fd ps ks pm)
    (hp : PassesAt CX X σ (E σ)) (inv : Inv X pins σ H s) (va : Vals vs ws) (hl : ws.length = ks.length) (hsp : sp (permL pm vs .non) H Q (E σ)) : wpAny (model X.prog X.w) X.A (call (.ref fad) [] (ks.zip ws)) (EP X pins σ Q) X.xe s := by
  have go := G.run X.A X.stack s H ⟨[], ks.zip ws⟩ (permL pm ws .none) (permL pm vs .non) Q (E σ) room gd inv.env0 (bd s ws inv.kIn hl) (Vals.perm va pm) hsp
  refine wpAny_call (codeAny_mono go fun r s' hq => ?_)
  match r, hq with
  | .error e, hq => exact hp pins H s e s' inv hq
  | .ok (.ret u), hq => exact inv.after hq
  | .ok .next, hq => exact False.elim hq
  | .ok .brk, hq => exact False.elim hq
  | .ok .cont, hq => exact False.elim hq
theorem e_callK {kws : List Keyword} {fd : FuncData} {ps ks : List Str} {pm : List Nat} {tk : TA} (G : FnG X.prog X.w X.K X.mg X.base (L2.CX X.prog X.w) k (fa x) fd ps (spOf (Cf X fa ca) f)) (room : Room k X.A) (gd : X.A.guards = some []) (hg : Gl X x) (hm : X.mg x = some (.ref (fa x))) (hk : PySem.W.keepIn X.K (.ref (fa x)) = true) (bd : KwB X.K fd ps ks pm)
    (hp : ∀ σ, PassesAt (L2.CX X.prog X.w) X σ (E0 σ)) (hkw : PK X kws (tRA (Cf X fa ca) E0 ms)) (hn : kws.length = ks.length) (hlen : ∀ env rs env', ms env = .ok rs env' → rs.length = ks.length) (hall : (backToKw pos (keywordEach kws X.env)).all (·.1.isSome) = true := by rfl) (hks : (backToKw pos (keywordEach kws X.env)).filterMap (·.1) = ks := by rfl)
    (hdb : (x == ("__debug__" : Str)) = false := by decide) (hpl : ((backTo pos (starEach [] X.env)).any (·.1) || (backToKw pos (keywordEach kws X.env)).any (·.1.isNone)) = false := by rfl) :
    PE X (.Call (.Name x p) [] kws pos) (tR (Cf X fa ca) E0 (callKE f pm ms)) := by
  refine ⟨fun pins s σ H Q I h => ?_⟩
  obtain ⟨env, F, rel, h⟩ := h
  refine wpAny_Call_Name_kw (ld_glob I hg hm ?_ hdb)
  refine PySem.W.callWith_KW0 (h₀ := X.base) I.ok.mod.kin hk hall (thn (hkw.run pos pins s σ H (fun vs H2 => vs.length = ks.length ∧ spOf (Cf X fa ca) f (permL pm vs .non) H2 Q (E0 σ)) I ⟨env, F, rel, ?_⟩) fun us s2 ⟨vs, H2, I2, r, hl, q⟩ => ⟨I2.kIn, ?_⟩) hpl
  · unfold callKE at h
    cases em : ms env with
    | stuck => rw [em] at h; exact h
    | exc c x e1 => rw [em] at h; exact h
    | ok rs env1 =>
      rw [em] at h
      intro vs F1 H1 n vrs
      have l1 : vs.length = rs.length := by
        clear h em
        induction vrs with
        | nil => rfl
        | cons _ _ ih => simp [ih]
      exact ⟨by rw [l1]; exact hlen env rs env1 em, callV_sp n.rel (vrs.perm pm) (Post.later n h)⟩
  · rw [hks]
    exact runGK G room gd bd (hp σ) I2 r (by rw [← Paired.length r]; exact hl) q
theorem k_nil : PK X [] (tRA (Cf X fa ca) E0 nilA) := ⟨fun pos pins s σ H Q I ⟨env, F, rel, h⟩ => pk_nil.run pos pins s σ H Q I (h [] F H (Nx.refl rel) .nil)⟩
theorem k_cons {nm : Option Str} {kpos : Pos} {kws : List Keyword} {m : PEnv → R Val} (ha : PE X e (tR (Cf X fa ca) E0 m)) (hr : PK X kws (tRA (Cf X fa ca) E0 ms)) : PK X (⟨nm, e, kpos⟩ :: kws) (tRA (Cf X fa ca) E0 (consA m ms)) := by
  refine ⟨fun pos pins s σ H Q I ⟨env, F, rel, h⟩ => (pk_cons ha hr).run pos pins s σ H Q I ?_⟩
  refine ⟨env, F, rel, seqA rel h fun r env1 v F1 H1 n vr h1 => ⟨env1, F1, n.rel, seqLL h1 fun rs env2 vs F2 H2 n2 vrs h2 => ?_⟩⟩
  exact h2 (v :: vs) F2 H2 (Nx.refl n2.rel) (.cons (vr.up n2.adv.fz) vrs)
theorem R.bindF_ok {α : Type} {m : R Val} {g : Val → PEnv → R α} {a : α} {e : PEnv} (h : m.bindF g = .ok a e) : ∃ r e1, m = .ok r e1 ∧ g r.frz e1 = .ok a e := by
  cases m with
  | stuck => cases h
  | exc c x e1 => cases h
  | ok r e1 => exact ⟨r, e1, rfl, h⟩
theorem R.bind_ok {α β : Type} {m : R α} {g : α → PEnv → R β} {a : β} {e : PEnv} (h : m.bind g = .ok a e) : ∃ r e1, m = .ok r e1 ∧ g r e1 = .ok a e := by
  cases m with
  | stuck => cases h
  | exc c x e1 => cases h
  | ok r e1 => exact ⟨r, e1, rfl, h⟩
theorem nil_len (env : PEnv) (rs : List Val) (env' : PEnv) (h : nilA env = .ok rs env') : rs.length = 0 := by cases h; rfl
theorem cons_len {n : Nat} {m : PEnv → R Val} {ms : PEnv → R (List Val)} (h : ∀ env rs env', ms env = .ok rs env' → rs.length = n) (env : PEnv) (rs : List Val) (env' : PEnv) (hh : consA m ms env = .ok rs env') : rs.length = n + 1 := by
  obtain ⟨r, e1, _, h1⟩ := R.bindF_ok hh
  obtain ⟨rs2, e2, h2, h3⟩ := R.bind_ok h1
  cases h3
  simp [h _ _ _ h2]
end
end Pi


set_option Elab.async false
set_option linter.all false
set_option maxRecDepth 100000
set_option autoImplicit false
/-! Pi20: empty dicts among data -/
namespace Pi
open PySem PySem.Spec PyProof.Rows L2

/-! ### a tuple is no dict -/
theorem tupEqDict (l b : Addr) (items : Array Value) (es : Array DictEntry) (n n2 : Nat) (dd dd2 : Option Addr) (sl sl2 : Array (Option Value)) :
    Meets (Builtin.«tuple.__eq__» ⟨[.ref l, .ref b], []⟩) (fun _ R s => s.heap.get? l = some { cls := .type "tuple", dict := dd, data := .seq items n, slots := sl } ∧ s.heap.get? b = some { cls := .type "dict", dict := dd2, data := .dict es n2, slots := sl2 } ∧ R (.ok (.ret .notImplemented)) s) :=
  .of_wp fun prog w A R s h => by obtain ⟨hp, g, d, tk, os⟩ := s; obtain ⟨hl, hb, h⟩ := h; have f1 := PySem.F.sub_dict_tuple; wp_walk using wpAny_loadPart' hl, wpAny_loadPart' hb; exact ⟨_, rfl, h⟩
theorem dictEqTup (l b : Addr) (items : Array Value) (es : Array DictEntry) (n n2 : Nat) (dd dd2 : Option Addr) (sl sl2 : Array (Option Value)) :
    Meets (Builtin.«dict.__eq__» ⟨[.ref b, .ref l], []⟩) (fun _ R s => s.heap.get? l = some { cls := .type "tuple", dict := dd, data := .seq items n, slots := sl } ∧ s.heap.get? b = some { cls := .type "dict", dict := dd2, data := .dict es n2, slots := sl2 } ∧ R (.ok (.ret .notImplemented)) s) :=
  .of_wp fun prog w A R s h => by obtain ⟨hp, g, d, tk, os⟩ := s; obtain ⟨hl, hb, h⟩ := h; have f1 := PySem.F.sub_tuple_dict; wp_walk using wpAny_loadPart' hl, wpAny_loadPart' hb; exact ⟨_, rfl, h⟩
theorem eqAt_td {A : Around} {s : Shared} {l b : Addr} {items : Array Value} {o2 : Obj} {es : Array DictEntry} {n2 : Nat} (hl : s.heap.IsTuple l items) (hb : s.heap.get? b = some o2) (hc2 : o2.cls = .type "dict") (hd2 : o2.data = .dict es n2) (hu : A.units < cLine) : SeqAt.EqAt A s (.ref l) (.ref b) false := by
  obtain ⟨⟨cls, dd, data, sl⟩, ho, hc, n, hd⟩ := id hl
  obtain ⟨cls2, dd2, data2, sl2⟩ := o2
  simp only at hc hd hc2 hd2
  subst hc hd hc2 hd2
  have hne : l ≠ b := fun e => by
    subst e
    rw [ho] at hb
    simp at hb
  refine .of_refs hne fun prog w E Q h => ?_
  exact (SeqAt.rc_eq_decline_or (k := false) ⟨_, ho, rfl⟩ ⟨_, hb, rfl⟩ (by decide) PySem.F.sub_dict_tuple PySem.F.slot_tuple_eq PySem.F.slot_dict_eq_refl
    (fun _ hq => call_meets PySem.F.slot_tuple_eq ⟨_, ho, rfl⟩ PySem.F.entry_tuple_eq (PySem.F.args_tuple_eq_2 _ _) (tupEqDict l b items es n n2 dd dd2 sl sl2) ⟨ho, hb, hq⟩)
    (fun _ hq => call_meets PySem.F.slot_dict_eq_refl ⟨_, hb, rfl⟩ PySem.F.entry_dict_eq (PySem.F.args_dict_eq_2 _ _) (dictEqTup l b items es n n2 dd dd2 sl sl2) ⟨ho, hb, hq⟩)
    (fun _ hq => SeqAt.wpAny_isSame_ref_other' hne ho hb (by simp) hq) (.inr hu) h)

def isTupD : D → Bool
  | .tuple _ => true
  | _ => false
def notinD3 (x y : D) : Option Val := match x, y with
  | .dict _, .list ys => if ys.all isTupD = true then some (.d (.bool true)) else none
  | x, y => notinD2 x y
section
variable {X : Cx} {fa ca : Str → Addr}
theorem tups_of {K : Kf} {F : Hp} {pins : List (Addr × Obj)} {σ : L2.St} {H : Hp} {s : Shared} (hK : K = X.K) (I : Inv X pins σ H s) (ex : Ex F H) : ∀ {ys : List D} {vs : List V} {us : List Value}, ys.all isTupD = true → RpA K F vs ys → Vals vs us → ∀ u ∈ us, ∃ l its, u = .ref l ∧ s.heap.IsTuple l its := by
  intro ys
  subst hK
  induction ys with
  | nil => intro vs us _ h r u m; cases h; cases r; cases m
  | cons y ys ih =>
    intro vs us ha h r u m
    rw [List.all_cons, Bool.and_eq_true] at ha
    cases h with
    | cons h1 h2 =>
      cases r with
      | @cons _ u0 _ ur r1 r2 =>
        rcases List.mem_cons.mp m with e | e
        · subst e
          cases y with
          | tuple xs =>
            cases h1 with
            | tup a b =>
              cases r1
              obtain ⟨its, rv, h3, _⟩ := I.tuple (Evl.ex_t ex a)
              exact ⟨_, its.toArray, rfl, h3⟩
          | _ => simp [isTupD] at ha
        · exact ih ha.2 h2 r2 u e
theorem op_notinD3 (hu : X.A.units + 65 < cLine) : OpR X (compareOp .NotIn) (r2 (Cf X fa ca) notinD3) := by
  intro pins s σ H x y v u Q I rx ry h
  obtain ⟨τ, env, F, dx, dy, res, rel, cx, cy, g, q⟩ := h
  have old : notinD2 dx dy = some res → wpAny (model X.prog X.w) X.A (compareOp .NotIn v u) (EP X pins σ Q) X.xe s := fun g => op_notinD2 hu pins s σ H x y v u Q I rx ry ⟨τ, env, F, dx, dy, res, rel, cx, cy, g, q⟩
  cases dx with
  | dict ds =>
    cases dy with
    | list ys =>
      have g : (if ys.all isTupD = true then some (Val.d (.bool true)) else none) = some res := g
      by_cases z : ys.all isTupD = true
      · rw [if_pos z] at g
        cases g
        obtain ⟨a, kvs, rfl, ha, rk, hf⟩ := cx.dict
        obtain ⟨b, vs, rfl, sb, rb⟩ := cy.list
        cases rx
        cases ry
        obtain ⟨_, _, ws, _, o, es, ep, ho, hx, hd, _⟩ := (show ObjOk X.prog X.w H s.heap a (.dK kvs) from I.hok a _ ha)
        obtain ⟨its, rv, ⟨oo, nn, ho2, hc2, _, hd2⟩, _⟩ := I.list sb
        have hl : s.heap.IsList b its.toArray := ⟨oo, ho2, hc2, nn, hd2⟩
        refine SeqAt.notIn_listAt (fun _ => false) hl (fun y hy => ?_) ?_
        · obtain ⟨l, its', rfl, ht⟩ := tups_of rfl I (Evl.Ex.refl H) z (rb.up rel.ex) rv y (by simpa using hy)
          exact eqAt_td ht ho hx.1 hd (by show X.A.units + 1 < cLine; omega)
        · refine ⟨.bl true, H, I, ?_, q.here rel (.bl _)⟩
          have e : ∀ l : List Value, (l.any fun _ => false) = false := fun l => by induction l with | nil => rfl | cons a l ih => simp
          show Value.bool (!(its.toArray.any fun _ => false)) = Value.bool true
          rw [← Array.any_toList, e]
          rfl
      · rw [if_neg z] at g; cases g
    | _ => exact old g
  | _ => exact old g
end

/-! ### repr where empty dicts stand within -/
mutual
def emptyDicts : D → Bool
  | .list xs => emptyDictsA xs
  | .tuple xs => emptyDictsA xs
  | .dict kvs => kvs.isEmpty
  | _ => true
def emptyDictsA : List D → Bool
  | [] => true
  | x :: xs => emptyDicts x && emptyDictsA xs
end
/-- the table of the modules is known, and is no list -/
def SysM (K : Kf) : Prop := ∃ o, K.lookup sysModules = some o ∧ o.cls ≠ .type "list"
section
variable {X : Cx} {pins : List (Addr × Obj)} {σ : L2.St} {H : Hp} {s : Shared}
mutual
theorem Rp.rds (sm : SysM X.K) (I : Inv X pins σ H s) : ∀ (d : D) (v : V) (u : Value), emptyDicts d = true → Rp X.K H v d → RelV v u → ∃ as, Reads s.heap u d as ∧ sysModules ∉ as
  | .none, _, _, _, h, r => by cases h; cases r; exact ⟨_, Reads.none, by simp⟩
  | .bool b, _, _, _, h, r => by cases h; cases r; exact ⟨_, Reads.bool b, by simp⟩
  | .int i, _, _, _, h, r => by cases h; obtain ⟨t, rfl⟩ := r; exact ⟨_, Reads.int i t, by simp⟩
  | .str x, _, _, _, h, r => by cases h; obtain ⟨t, rfl⟩ := r; exact ⟨_, Reads.str x t, by simp⟩
  | .list ds, _, _, e, h, r => by
    cases h with
    | @lst a _ _ hs ha =>
      cases r
      obtain ⟨its, rv, ⟨o, n, ho, hc, _, hd⟩, _⟩ := I.list hs
      obtain ⟨as, hr, hn⟩ := Rp.rdsA sm I ds _ its (by simpa [emptyDicts] using e) ha rv
      refine ⟨_, Reads.list ho hc hd hr, fun m => ?_⟩
      rcases List.mem_cons.mp m with q | q
      · obtain ⟨o2, k1, k2⟩ := sm
        have := I.kIn _ _ k1
        rw [q, ho] at this
        cases this
        exact k2 hc
      · exact hn q
  | .tuple ds, _, _, e, h, r => by
    cases h with
    | tup hs ha =>
      cases r
      obtain ⟨its, rv, ⟨o, ho, hc, n, hd⟩, _⟩ := I.tuple hs
      obtain ⟨as, hr, hn⟩ := Rp.rdsA sm I ds _ its (by simpa [emptyDicts] using e) ha rv
      exact ⟨_, Reads.tuple ho hc hd hr, hn⟩
  | .dict kvs, _, _, e, h, r => by
    have e : kvs.isEmpty = true := by simpa [emptyDicts] using e
    cases kvs with
    | cons p q => cases e
    | nil =>
      cases h with
      | @dic a ks _ hF hk =>
        cases hk
        cases r
        obtain ⟨_, hs, vs, kv, o, es, ep, ho, hx, hd, hkeys, hp, _⟩ := (show ObjOk X.prog X.w H s.heap a (.dK []) from I.hok a _ hF)
        have lv : vs.length = 0 := by
          have := Paired.length kv
          simpa using this.symm
        have le : es.toList.length = 0 := by rw [hp.length, lv]
        have ee : es.toList = [] := List.eq_nil_of_length_eq_zero le
        refine ⟨_, Reads.dict (as := []) (bs := []) ho hx.1 hd (by rw [ee]; exact ReadsAll.nil) (by rw [ee]; exact ReadsAll.nil), fun m => ?_⟩
        have m : sysModules = a := by simpa using m
        rw [m] at hs
        simp at hs
theorem Rp.rdsA (sm : SysM X.K) (I : Inv X pins σ H s) : ∀ (ds : List D) (vs : List V) (us : List Value), emptyDictsA ds = true → RpA X.K H vs ds → Vals vs us → ∃ as, ReadsAll s.heap us ds as ∧ sysModules ∉ as
  | [], _, _, _, h, r => by cases h; cases r; exact ⟨_, ReadsAll.nil, by simp⟩
  | d :: ds, _, _, e, h, r => by
    have e : emptyDicts d = true ∧ emptyDictsA ds = true := by simpa [emptyDictsA] using e
    cases h with
    | cons h1 h2 =>
      cases r with
      | cons r1 r2 =>
        obtain ⟨as, q1, n1⟩ := Rp.rds sm I d _ _ e.1 h1 r1
        obtain ⟨bs, q2, n2⟩ := Rp.rdsA sm I ds _ _ e.2 h2 r2
        exact ⟨_, ReadsAll.cons q1 q2, fun m => (List.mem_append.mp m).elim n1 n2⟩
end
end
def reprE1 (x : D) : Option Val := if emptyDicts x = true ∧ x.showable = true ∧ x.shown.length ≤ big ∧ x.depth ≤ 100 then some (.d (.str x.shown)) else none
def reprED := one reprE1
section
variable {X : Cx} {fa ca : Str → Addr} {E0 : L2.St → XK}
theorem c_reprE (sm : SysM X.K) (hu : X.A.units + 110 < cLine) (hgd : X.A.guards = some []) : CallR X (.builtin "repr") (rC (Cf X fa ca) reprED) := by
  intro pins s σ H xs us Q I r h
  obtain ⟨τ, env, F, ds, res, rel, ct, g, q⟩ := h
  match ds, ct, g with
  | [x], .cons cx .nil, g =>
    have g : (if emptyDicts x = true ∧ x.showable = true ∧ x.shown.length ≤ big ∧ x.depth ≤ 100 then some (Val.d (.str x.shown)) else none) = some res := g
    by_cases hz : emptyDicts x = true ∧ x.showable = true ∧ x.shown.length ≤ big ∧ x.depth ≤ 100
    · rw [if_pos hz] at g
      cases g
      obtain ⟨u, rfl, ru⟩ := vals1 r
      obtain ⟨as, rd, hn⟩ := Rp.rds sm I x _ u hz.1 cx.rp ru
      have fin : ∀ h' u' tk, (∀ b o, s.heap.get? b = some o → h'.get? b = some o) → EP X pins σ Q (.str x.shown u') { s with heap := h', toks := tk } :=
        fun h' u' tk hk => ⟨.str x.shown, H, I.kept hk, ⟨_, rfl⟩, q.here rel (.str _)⟩
      cases rd with
      | none => exact PySem.P.repr_of_none (fin s.heap _ _ fun _ _ e => e)
      | bool b => exact PySem.P.repr_of_bool (by have := fin s.heap s.toks (s.toks + 1) fun _ _ e => e; cases b <;> exact this)
      | int i t => exact PySem.P.repr_of_int (by simpa [PyData.showable] using hz.2.1) (fin s.heap _ _ fun _ _ e => e)
      | str z t => exact PySem.P.repr_of_str (fin s.heap _ _ fun _ _ e => e) (big_line hz.2.2.1)
      | list h1 h2 h3 h4 => exact repr_of_reads' (Reads.list h1 h2 h3 h4) hz.2.1 (fun _ => hn) hgd (by have := hz.2.2.2; omega) (fun _ _ e => e) (fun h' u' tk hk => fin h' u' tk hk) (big_line hz.2.2.1)
      | tuple h1 h2 h3 h4 => exact repr_of_reads' (Reads.tuple h1 h2 h3 h4) hz.2.1 (fun _ => hn) hgd (by have := hz.2.2.2; omega) (fun _ _ e => e) (fun h' u' tk hk => fin h' u' tk hk) (big_line hz.2.2.1)
      | dict h1 h2 h3 h4 h5 => exact repr_of_reads' (Reads.dict h1 h2 h3 h4 h5) hz.2.1 (fun _ => hn) hgd (by have := hz.2.2.2; omega) (fun _ _ e => e) (fun h' u' tk hk => fin h' u' tk hk) (big_line hz.2.2.1)
    · rw [if_neg hz] at g; cases g
  | [], .nil, g => cases g
  | _ :: _ :: _, .cons _ (.cons _ _), g => cases g
/-- {} -/
theorem e_dict0 {pos : Pos} : PE X (.Dict [] [] pos) (tR (Cf X fa ca) E0 (cstE (.dict []))) := by
  refine PE.weak pe_dnewK fun σ H Q ⟨env, F, rel, h⟩ p hp => ?_
  have fp : F p = none := by
    cases q : F p with
    | none => rfl
    | some u => rw [rel.ex p u q] at hp; cases hp
  exact h _ (upd F p (.dK [])) _ (rel.laid hp) (.dic upd_same .nil)
end
end Pi


set_option Elab.async false
set_option linter.all false
set_option maxRecDepth 100000
set_option autoImplicit false
/-! Pi21: name = [..] and name = {..} by comprehensions on one line -/
namespace Pi
open PySem PySem.Spec PyProof.Rows L2
section
variable {X : Cx}
theorem swD {kx vx : Expr} {gs : List Comprehension} {scope : Scope} {pos py : Pos} {y : Str} {l : Nat} {env : Env} (hk : env.scope.kind = .function) (hy : env.scope.names.lookup y = some .local) (hl : (py.line == pos.line) = true)
    (ha : (scope.names.any fun (n, k) => n == y && (k == .local || k == .cell)) = false) : swapsWith (.DictComp kx vx gs scope pos) (some (.Name y py)) l env = pure true := by
  have ky : env.kindOf y = some .local := hy
  have hb : env.blockKind = .function := by unfold Env.blockKind; rw [hk]; rfl
  unfold swapsWith
  simp only [hb, ky, ha, Expr.pos, hl]
  rfl
theorem ps_setDc {i : Nat} {y : Str} {py : Pos} {kx vx tg iter : Expr} {ifs : List Expr} {scope : Scope} {own : List (Str × Nat)} {pos spos : Pos} {wi : TI} {g : TG} {tt : TT} {tk tv : TE} (hc : X.calm = true) (hN : X.N.Nodup) (hy : X.N[i]? = some y) (hyl : X.env.scope.names.lookup y = some .local)
    (hsw : swapsWith (.DictComp kx vx [⟨tg, iter, ifs, 0⟩] scope pos) (some (.Name y py)) spos.line X.env = pure true) (hi : PI X tg iter wi) (ok : BlkOk X.N X.env.scope scope own)
    (hg : ∀ (s : Shared) (H : Hp) (C : Addr) (cl : List (Str × Addr)) (fp : List Addr), PG (X.blk s H scope (compEnvC scope cl C X.env) fp) tg g) (ht : ∀ (s : Shared) (H : Hp) (C : Addr) (cl : List (Str × Addr)) (fp : List Addr), PTs (X.blk s H scope (compEnvC scope cl C X.env) fp) ifs tt)
    (hk : ∀ (s : Shared) (H : Hp) (C : Addr) (cl : List (Str × Addr)) (fp : List Addr), PE (X.blk s H scope (compEnvC scope cl C X.env) fp) kx tk)
    (he : ∀ (s : Shared) (H : Hp) (C : Addr) (cl : List (Str × Addr)) (fp : List Addr), PE (X.blk s H scope (compEnvC scope cl C X.env) fp) vx tv) (hs : ∀ x, foldedSetIterable iter X.env x = pure x := by intro _; rfl) :
    PS X (.Assign [.Name y py] (.DictComp kx vx [⟨tg, iter, ifs, 0⟩] scope pos) spos) (tAsg (tDc wi g tt tk tv (own.map (·.2))) (gName i)) := by
  refine ⟨fun pins s σ H D I h => ?_⟩
  rw [exec_Assign_Name_used _ _ _ _ hsw]
  refine wpAny_bind (wpAny_standAt (wpAny_bind ?_))
  show wpAny _ X.A (do let _ ← comprehension (.DictComp kx vx [⟨tg, iter, ifs, 0⟩] scope pos) scope X.env (firstIterPos [⟨tg, iter, ifs, 0⟩] pos) newDict false (eval iter X.env) (some (assign (.Name y py) X.env))) _ _ s
  have h : tDc wi g tt tk tv (own.map (·.2)) σ H (fun x H1 => gName i x σ H1 D.nx) := h
  refine wpAny_bind (thn (dc_core (Qf := fun _ s' => SP X pins D .next s') hc hN I hi ok hg ht hk he hs h fun L C s' m H' I' q hn f => ?_) fun _ s' hq => wpAny_pure (wpAny_pure hq))
  show wpAny _ _ (assign (.Name y py) X.env (.ref L)) _ _ _
  refine wpAny_assign_Name (store_ok2 (v := V.ref L) I' hN hy (.inl hyl) rfl (fun s2 I2 ⟨a, sb, ha⟩ => ?_) (.inr hyl))
  obtain ⟨f0, f1, f2, f3, f4, f5⟩ := f
  have haC : C ≠ a := by
    rcases ha with z | z
    · rw [z]; exact f1
    · exact fun e => f4 y a z e.symm
  refine ⟨m, hn.sameBut sb haC, fun h3 sb3 => ?_⟩
  exact ⟨_, H', I2.turned (t' := s2.toks) (fun b o hb e => (sb3.2 b hb).trans e) f0 f1 f3 f4 f5, q⟩
end
section
variable {X : Cx} {fa ca : Str → Addr} {E0 : L2.St → XK} {T : Ent}
theorem tS_asgLc {i : Nat} {o : Bool} {y : Str} {py : Pos} {elt tg iter : Expr} {ifs : List Expr} {scope : Scope} {own : List (Str × Nat)} {pos spos : Pos} {g : Tg} {m : PEnv → R (List PyData)} {t : PEnv → R Bool} {e : PEnv → R Val} (hc : X.calm = true) (hN : X.N.Nodup) (hy : X.N[i]? = some y) (hyl : X.env.scope.names.lookup y = some .local)
    (hsw : swapsWith (.ListComp elt [⟨tg, iter, ifs, 0⟩] scope pos) (some (.Name y py)) spos.line X.env = pure true)
    (hi : PI X tg iter (tI (Cf X fa ca) E0 m)) (ok : BlkOk X.N X.env.scope scope own)
    (hg : ∀ (s : Shared) (H : Hp) (A : Addr) (cl : List (Str × Addr)) (fp : List Addr), PG (X.blk s H scope (compEnvC scope cl A X.env) fp) tg (tG (Cf X fa ca) (own.map (·.2)) g))
    (ht : ∀ (s : Shared) (H : Hp) (A : Addr) (cl : List (Str × Addr)) (fp : List Addr), PTs (X.blk s H scope (compEnvC scope cl A X.env) fp) ifs (tRT (Cf X fa ca) noE t))
    (he : ∀ (s : Shared) (H : Hp) (A : Addr) (cl : List (Str × Addr)) (fp : List Addr), PE (X.blk s H scope (compEnvC scope cl A X.env) fp) elt (tR (Cf X fa ca) noE e)) (hs : ∀ x, foldedSetIterable iter X.env x = pure x := by intro _; rfl) :
    PS X (.Assign [.Name y py] (.ListComp elt [⟨tg, iter, ifs, 0⟩] scope pos) spos) (tS (Cf X fa ca) T E0 (asgS i o (lcE (own.map (·.2)) m g t e))) := by
  refine PS.weak (ps_setLc hc hN hy hyl hsw hi ok hg ht he hs) fun Z σ H ⟨env, F, loc, h⟩ => ?_
  exact lc_weak (E0 := E0) ⟨env, F, loc.rel, seqES loc h fun r env1 v F1 H1 n p q => asg_ok loc n p q⟩
theorem tS_asgDc {i : Nat} {o : Bool} {y : Str} {py : Pos} {kx vx tg iter : Expr} {ifs : List Expr} {scope : Scope} {own : List (Str × Nat)} {pos spos : Pos} {g : Tg} {m : PEnv → R (List PyData)} {t : PEnv → R Bool} {ek ev : PEnv → R Val} (hc : X.calm = true) (hN : X.N.Nodup) (hy : X.N[i]? = some y) (hyl : X.env.scope.names.lookup y = some .local)
    (hsw : swapsWith (.DictComp kx vx [⟨tg, iter, ifs, 0⟩] scope pos) (some (.Name y py)) spos.line X.env = pure true)
    (hi : PI X tg iter (tI (Cf X fa ca) E0 m)) (ok : BlkOk X.N X.env.scope scope own)
    (hg : ∀ (s : Shared) (H : Hp) (A : Addr) (cl : List (Str × Addr)) (fp : List Addr), PG (X.blk s H scope (compEnvC scope cl A X.env) fp) tg (tG (Cf X fa ca) (own.map (·.2)) g))
    (ht : ∀ (s : Shared) (H : Hp) (A : Addr) (cl : List (Str × Addr)) (fp : List Addr), PTs (X.blk s H scope (compEnvC scope cl A X.env) fp) ifs (tRT (Cf X fa ca) noE t))
    (hk : ∀ (s : Shared) (H : Hp) (A : Addr) (cl : List (Str × Addr)) (fp : List Addr), PE (X.blk s H scope (compEnvC scope cl A X.env) fp) kx (tR (Cf X fa ca) noE ek))
    (he : ∀ (s : Shared) (H : Hp) (A : Addr) (cl : List (Str × Addr)) (fp : List Addr), PE (X.blk s H scope (compEnvC scope cl A X.env) fp) vx (tR (Cf X fa ca) noE ev)) (hs : ∀ x, foldedSetIterable iter X.env x = pure x := by intro _; rfl) :
    PS X (.Assign [.Name y py] (.DictComp kx vx [⟨tg, iter, ifs, 0⟩] scope pos) spos) (tS (Cf X fa ca) T E0 (asgS i o (dcE (own.map (·.2)) m g t ek ev))) := by
  refine PS.weak (ps_setDc hc hN hy hyl hsw hi ok hg ht hk he hs) fun Z σ H ⟨env, F, loc, h⟩ => ?_
  exact dc_weak (E0 := E0) ⟨env, F, loc.rel, seqES loc h fun r env1 v F1 H1 n p q => asg_ok loc n p q⟩
/-- one test of a comprehension -/
theorem ts_one {e : Expr} {t : PEnv → R Bool} (h : PT X e (tRT (Cf X fa ca) E0 t)) : PTs X [e] (tRT (Cf X fa ca) E0 t) := by
  refine ⟨fun pins s σ H Q I hq => (pts_one h).run pins s σ H Q I hq⟩
end
end Pi


set_option Elab.async false
set_option linter.all false
set_option maxRecDepth 100000
set_option autoImplicit false
/-! Pi22: len(set(words)) of a list of texts, whatever stands twice -/
namespace Pi
open PySem PySem.Spec PyProof.Rows L2

def nubStep (acc : List Str) (x : Str) : List Str := if acc.any (· == x) then acc else acc ++ [x]
/-- the unlike ones, as they come -/
def nubS (xs : List Str) : List Str := xs.foldl nubStep []
theorem nubS_more (xs : List Str) (x : Str) : nubS (xs ++ [x]) = nubStep (nubS xs) x := by unfold nubS; rw [List.foldl_append]; rfl
theorem nubStep_any (acc : List Str) (x k : Str) : (nubStep acc x).any (· == k) = (acc.any (· == k) || x == k) := by
  unfold nubStep
  by_cases h : acc.any (· == x) = true
  · rw [if_pos h]
    by_cases e : (x == k) = true
    · have : x = k := by simpa using e
      subst this
      rw [h]; simp
    · have e : (x == k) = false := by simpa using e
      rw [e, Bool.or_false]
  · rw [if_neg h, List.any_append]; simp
theorem nubS_len_le : ∀ (xs : List Str) (acc : List Str), (xs.foldl nubStep acc).length ≤ acc.length + xs.length
  | [], acc => by simp
  | x :: xs, acc => by
    have h := nubS_len_le xs (nubStep acc x)
    have h2 : (nubStep acc x).length ≤ acc.length + 1 := by unfold nubStep; split <;> simp
    simp only [List.foldl_cons, List.length_cons]; omega
def freshSet (led : Bool) : Obj := { cls := .type "set", dict := none, data := .set #[] 0 (.fresh 0 0 led) }
theorem keepSet {p : Program} {w : World} {a : Addr} {S : Str → Bool} {n : Nat} {h h' : Heap} (x : h.SetOf (PySem.strKind p w) a S n) (k : ∀ o, h.get? a = some o → h'.get? a = some o) : h'.SetOf (PySem.strKind p w) a S n :=
  let ⟨o, es, ep, t, ho, r⟩ := x; ⟨o, es, ep, t, k o ho, r⟩
section
variable {p : Program} {w : World} {A : Around}
/-- the machine's loop that puts a walk's texts into a set -/
theorem fillTexts {R : Result → Shared → Prop} {It : Addr} {cells wrt : List Addr} {Gn : Array GenState → Array GenState → Prop} {m : Nat} {Pv : Nat → Value → Prop} {At : Nat → Shared → Prop} (Wk : WalksS p w A.in1 It cells wrt Gn m Pv At) {D : Addr} (apart : D ∉ cells) (xs : List Str)
    (hm : xs.length = m) (few : m < 4000) (tells : ∀ i v, Pv i v → ∃ t, v = .str (xs.getD i Str.empty) t) :
    ∀ (left i : Nat) (s : Shared), m - i = left → i ≤ m → At i s → s.heap.SetOf (PySem.strKind p w) D (fun k => (nubS (xs.take i)).any (· == k)) (nubS (xs.take i)).length →
      (∀ s', Moved (D :: wrt) Gn s s' → s'.heap.SetOf (PySem.strKind p w) D (fun k => (nubS (xs.take m)).any (· == k)) (nubS (xs.take m)).length → R (.ok (.ret .none)) s') →
      codeAny (model p w) A (.builtin "set.update.loop" ⟨[.ref D, .ref It], []⟩) R s := by
  have out : D ∉ wrt := fun z => apart (Wk.sub _ z)
  have wide : ∀ b ∈ wrt, b ∈ D :: wrt := fun b z => .tail _ z
  intro left
  induction left with
  | zero =>
    intro i s e1 e2 at0 set0 fin
    obtain rfl : i = m := by omega
    refine codeAny_builtin (id := "set.update.loop") PyProof.Rows.F.entry_set_update_loop ?_
    rw [Around.under_plainId PyProof.Rows.F.plain_set_update_loop _]
    show wpAny _ _ (pyNext (.ref It) >>= _) _ _ s
    exact wpAny_bind (Wk.done s _ _ at0 fun s' mv => show wpAny _ _ (ret Value.none) _ _ s' from wpAny_pure (fin s' (mv.mono wide) (keepSet set0 fun o z => mv.heap D o out z)))
  | succ left ih =>
    intro i s e1 e2 at0 set0 fin
    have lt : i < m := by omega
    refine codeAny_builtin (id := "set.update.loop") PyProof.Rows.F.entry_set_update_loop ?_
    rw [Around.under_plainId PyProof.Rows.F.plain_set_update_loop _]
    show wpAny _ _ (pyNext (.ref It) >>= _) _ _ s
    refine wpAny_bind (Wk.item i s _ _ lt at0 fun v s' pv at1 mv => ?_)
    obtain ⟨t, rfl⟩ := tells i v pv
    have set1 := keepSet set0 fun o z => mv.heap D o out z
    generalize ex : xs.getD i Str.empty = x
    have more : xs.take (i + 1) = xs.take i ++ [x] := by
      rw [List.take_add_one, ← ex, List.getD_eq_getElem?_getD, List.getElem?_eq_getElem (by omega : i < xs.length)]; rfl
    have small : (nubS (xs.take i)).length + 1 < scanBound := by
      have := nubS_len_le (xs.take i) []
      have l2 : (xs.take i).length ≤ i := by rw [List.length_take]; omega
      unfold scanBound
      simp only [List.length_nil] at this
      show (List.foldl nubStep [] (xs.take i)).length + 1 < _
      omega
    show wpAny _ _ (holding [Value.str x t] (setAdd D (.str x t)) >>= _) _ _ s'
    refine wpAny_bind (wpAny_holding ?_)
    unfold setAdd
    refine wpAny_holding (wpAny_bind ((PySem.strKind p w).pyHash (k := x) (strKind_is _ _ _ _) ?_))
    refine wpAny_setAddHashed_of (knd := PySem.strKind p w) (s := { s' with toks := s'.toks + 1 }) (strKind_is _ _ _ _) rfl set1 small fun h' but set2 => ?_
    have set3 : h'.SetOf (PySem.strKind p w) D (fun k => (nubS (xs.take (i + 1))).any (· == k)) (nubS (xs.take (i + 1))).length := by
      refine SetOf_congr set2 (fun k => ?_) ?_
      · rw [more, nubS_more, nubStep_any]
        congr 1
        by_cases e : k = x
        · subst e; simp
        · rw [decide_eq_false e]; exact (by simpa using fun z : x = k => e z.symm : (x == k) = false).symm
      · rw [more, nubS_more]
        unfold nubStep
        split <;> simp
    refine wpAny_pure ⟨plainId_quiet PyProof.Rows.F.plain_set_update_loop _, ih (i + 1) _ (by omega) lt (Wk.frame _ s' _ _ at1 (Nat.le_succ _) fun b hb o e => (but.2 b fun z => apart (z ▸ hb)).trans e) set3 fun s2 mv2 set4 => fin s2 (Moved.trans Wk.gtrans ((mv.mono wide).then_heap (Nat.le_succ _) fun b o hb e => (but.2 b fun z => hb (z ▸ .head _)).trans e) mv2) set4⟩
end
section
variable {p : Program} {w : World} {A : Around} {E : Value → Shared → Prop} {s : Shared}
set_option maxHeartbeats 3200000 in
/-- set(xs) of a list of texts -/
theorem setOfTexts {l : Addr} {its : Array Value} {xs : List Str} {Q : Value → Shared → Prop} (calm : A.handled = none) (hl : s.heap.IsList l its) (hi : PyProof.Rows.StrsAre its.toList xs) (few : its.size < 4000)
    (go : ∀ (h' : Heap) (tk : Nat), h'.SetOf (PySem.strKind p w) s.heap.objs.size (fun k => (nubS xs).any (· == k)) (nubS xs).length → (∀ b o, b < s.heap.objs.size → s.heap.get? b = some o → h'.get? b = some o) → Q (.ref s.heap.objs.size) { s with heap := h', toks := tk }) :
    wpAny (model p w) A (call (.type "set") [.ref l]) Q E s := by
  obtain ⟨c, tl, hmro⟩ := PySem.F.called_set.mro
  have made := PySem.F.called_set.made
  have sub1 := PySem.F.called_set.sub
  refine wpAny_call (codeAny_of_tree ?_)
  show wpAny _ _ (callAny (.type "set") _) _ _ _
  refine wpAny_pure ⟨Code.quiet_builtin _ (by decide +kernel), codeAny_builtin (id := "type.__call__") PySem.F.entry_type_call ?_⟩
  rw [Around.under_plain (weight_type_call_type "set" [.ref l] []) rfl]
  have no1 := PySem.F.called_set.notType
  have no2 := PySem.F.called_set.canCreate
  have no3 := PySem.F.typeCall_set_1 (.ref l)
  repeat (any_goals (first | assumption | wp_step))
  refine codeAny_mono (code_set_new_1 (.ref l) (E := E) (Q₁ := fun obj s1 => ∃ led : Bool, obj = .ref s.heap.objs.size ∧ s1 = { s with heap := s.heap.push (freshSet led) }) fun led => ⟨led, rfl, rfl⟩) fun r s1 hr => ?_
  match r, hr with
  | .error e, hr => exact hr
  | .ok .next, hr => exact hr.elim
  | .ok .brk, hr => exact hr.elim
  | .ok .cont, hr => exact hr.elim
  | .ok (.ret obj), hr =>
    obtain ⟨led, rfl, rfl⟩ := hr
    have there : (s.heap.push (freshSet led)).get? s.heap.objs.size = some (freshSet led) := Heap.get?_push_size _ rfl
    have ty : Shared.TypeIs { s with heap := s.heap.push (freshSet led) } (.ref s.heap.objs.size) "set" := ⟨_, there, rfl⟩
    have in1 := PySem.F.called_set.init.lookup
    have in2 := PySem.F.called_set.init.bind (.ref s.heap.objs.size)
    repeat (any_goals (first | assumption | wp_step))
    refine codeAny_mono (codeAny_call_builtin (R := wants (fun r s2 => r = .none ∧ ∃ h' tk, s2 = { s with heap := h', toks := tk } ∧ h'.SetOf (PySem.strKind p w) s.heap.objs.size (fun k => (nubS xs).any (· == k)) (nubS xs).length ∧
        (∀ b o, b < s.heap.objs.size → s.heap.get? b = some o → h'.get? b = some o)) E) PySem.F.called_set.init.plain PySem.F.entry_set_init (check_set_init_1 ty ?_)) fun r2 s2 hr2 => ?_
    · obtain ⟨⟨oc, od, ot, os⟩, hol, hcl, nl, hdl⟩ := hl
      simp only at hcl hdl
      subst hcl hdl
      have hol2 := Heap.get?_push_of_some (freshSet led) hol
      have no4 := PySem.F.sub_list_set
      have no5 := PySem.F.sub_list_frozenset
      have no6 : (Value.type "list" == Value.type "dict") = false := by decide
      have isl : (s.heap.push (freshSet led)).IsList l its := ⟨_, hol2, rfl, nl, rfl⟩
      unfold Builtin.«set.__init__» noKeywords Builtin.Frozenset.updateFrom
      generalize hPI : pyIter = PI
      unfold freshSet at hol2 there ty isl ⊢
      wp_walk
      subst hPI
      refine wpAny_pyIter_list isl (wpAny_bind (wpAny_runValue ?_))
      have below : l < s.heap.objs.size := Heap.lt_size hol
      have calm3 : A.in1.in1.in1.handled = none := by simp [calm]
      have ne1 : l ≠ (s.heap.push (freshSet led)).objs.size := by rw [Heap.size_push]; exact Nat.ne_of_lt (Nat.lt_succ_of_lt below)
      have ne2 : s.heap.objs.size ∉ [(s.heap.push (freshSet led)).objs.size, l] := by
        rw [Heap.size_push]
        intro z
        rcases List.mem_cons.mp z with z | z
        · exact absurd z (Nat.ne_of_lt (Nat.lt_succ_self _))
        · exact absurd (List.mem_singleton.mp z) (Nat.ne_of_gt below)
      have size1 : xs.length = its.size := by rw [← StrsAre.len_eq hi, Array.length_toList]
      have all : nubS (xs.take its.size) = nubS xs := by rw [← size1, List.take_length]
      refine fillTexts ((Walks.list calm3 _ l ne1 its).toS) ne2 xs size1 few (fun i v hv => SS.strs_at hi i v (by rw [Array.getElem?_toList]; exact hv)) (its.size - 0) 0 _ (by omega) (Nat.zero_le _) ⟨⟨_, Heap.get?_push_size _ rfl, rfl, rfl⟩, (isl.push _)⟩ ?empty ?after
      case empty =>
        have g0 : ((s.heap.push (freshSet led)).push { cls := .type "list_iterator", data := .fields #[.ref l, .int 0 0] }).get? s.heap.objs.size = some (freshSet led) := Heap.get?_push_of_some _ there
        exact PyProof.Rows.SetOf_congr ((PyProof.Rows.setObjOf_fresh (knd := PySem.strKind p w) led).setOf g0 (by unfold scanBound; omega)) (fun _ => rfl) rfl
      case after =>
        rintro ⟨h', g', d', tk', os'⟩ mv set9
        obtain rfl : g' = s.gens := mv.gens
        obtain rfl : d' = s.drawn := mv.drawn
        obtain rfl : os' = s.os := mv.os
        rw [all] at set9
        show wpAny _ _ _ _ _ _
        refine wpAny_pure (show wpAny _ _ (ret Value.none) _ _ _ from wpAny_pure ⟨rfl, h', tk', rfl, set9, fun b o hb e => ?_⟩)
        refine mv.heap b o (fun z => ?_) (Heap.get?_push_of_some _ (Heap.get?_push_of_some _ e))
        rcases List.mem_cons.mp z with z | z
        · exact absurd z (Nat.ne_of_lt hb)
        · have z := List.mem_singleton.mp z
          rw [Heap.size_push] at z
          exact absurd z (Nat.ne_of_lt (Nat.lt_succ_of_lt hb))
    · match r2, hr2 with
      | .error e, hr2 => exact hr2
      | .ok .next, hr2 => exact hr2.elim
      | .ok .brk, hr2 => exact hr2.elim
      | .ok .cont, hr2 => exact hr2.elim
      | .ok (.ret r), hr2 =>
        obtain ⟨rfl, h', tk, rfl, set9, kept⟩ := hr2
        repeat (any_goals (first | assumption | wp_step))
        exact go _ _ set9 kept
end
/-! ### len(set(xs)) -/
def textsOf : List D → Option (List Str)
  | [] => some []
  | .str x :: ds => match textsOf ds with
    | some xs => some (x :: xs)
    | none => none
  | _ :: _ => none
def lenSetD : D → Option Val
  | .list ds => match textsOf ds with
    | some xs => if xs.length < 4000 then some (.d (.int (nubS xs).length)) else none
    | none => none
  | _ => none
theorem texts_ok {K : Kf} {F : Hp} : ∀ {ds : List D} {xs : List Str} {vs : List V}, textsOf ds = some xs → RpA K F vs ds → vs = xs.map V.str
  | [], _, _, e, h => by cases e; cases h; rfl
  | .str x :: ds, xs, _, e, h => by
    have e : (match textsOf ds with | some xs => some (x :: xs) | none => none) = some xs := e
    cases q : textsOf ds with
    | none => rw [q] at e; cases e
    | some ys =>
      rw [q] at e
      cases e
      cases h with
      | cons a b => cases a; rw [texts_ok q b]; rfl
  | .none :: _, _, _, e, _ => by cases e
  | .bool _ :: _, _, _, e, _ => by cases e
  | .int _ :: _, _, _, e, _ => by cases e
  | .list _ :: _, _, _, e, _ => by cases e
  | .tuple _ :: _, _, _, e, _ => by cases e
  | .dict _ :: _, _, _, e, _ => by cases e
theorem strsAre' : ∀ {ys : List Str} {us : List Value}, Vals (ys.map V.str) us → PyProof.Rows.StrsAre us ys
  | [], _, .nil => .nil
  | y :: ys, _, .cons r t => by
    obtain ⟨k, rfl⟩ := (show ∃ k, _ = Value.str y k from r)
    exact .cons y k (strsAre' t)
section
variable {X : Cx} {fa ca : Str → Addr} {E0 : L2.St → XK}
theorem e_lenSet {a : Expr} {m : PEnv → R Val} {p p2 q pos : Pos} (hc : X.calm = true) (hg : Gl X "len") (hm : X.mg "len" = none) (hg2 : Gl X "set") (hm2 : X.mg "set" = none) (ha : PE X a (tR (Cf X fa ca) E0 m))
    (na : starEach [a] X.env = (false, eval a X.env) :: starEach [] X.env := by rfl) : PE X (.Call (.Name "len" p) [.Call (.Name "set" p2) [a] [] q] [] pos) (tR (Cf X fa ca) E0 (unE lenSetD m)) := by
  refine ⟨fun pins s σ H Q I ⟨env, F, rel, h⟩ => ?_⟩
  refine Call_ (ld_blt I hg hm boot_len (PyProof.Rows.callWith_builtin1 (PyProof.Rows.args_cons ?_ rfl) rfl rfl))
  refine Call_ (ld_blt I hg2 hm2 boot_set (PyProof.Rows.callWith_type1 (PyProof.Rows.args_cons ?_ na) na rfl))
  refine thn (ha.run pins s σ H (fun x H1 => ∃ l xs, x = .ref l ∧ SqL X.K H1 l (xs.map V.str) ∧ xs.length < 4000 ∧ Q (.int (nubS xs).length) H1) I ⟨env, F, rel, seqE rel h fun r env1 v F1 H1 n vr h1 => ?_⟩) fun v s1 ⟨x, H1, I1, r1, l, xs, ex, sq, few, q1⟩ => PyProof.Rows.args_nil ?_
  · obtain ⟨_, _, _, dx, res, rel2, cx, eg, q⟩ := unV_ok n.rel vr h1
    cases dx with
    | list ds =>
      obtain ⟨l, vs, rfl, sq, ra⟩ := cx.list
      have eg : (match textsOf ds with | some xs => (if xs.length < 4000 then some (Val.d (.int (nubS xs).length)) else none) | none => none) = some res := eg
      cases et : textsOf ds with
      | none => rw [et] at eg; cases eg
      | some xs =>
        rw [et] at eg
        dsimp only at eg
        by_cases z : xs.length < 4000
        · rw [if_pos z] at eg
          cases eg
          cases texts_ok et ra
          exact ⟨l, xs, rfl, sq, z, q.here rel2 (.int _)⟩
        · rw [if_neg z] at eg; cases eg
    | _ => cases eg
  · subst ex
    cases r1
    obtain ⟨its, rv, pl, hz⟩ := I1.list sq
    have sz : its.toArray.size = xs.length := by rw [List.size_toArray, ← rv.length, List.length_map]
    refine setOfTexts (I1.ok.hd hc) pl.isList (by simpa using strsAre' rv) (by omega) fun h' tk set9 kept => PyProof.Rows.args_nil ?_
    obtain ⟨o, es, ep, t, ho, hex, hd, _, _, _, hf, hn⟩ := set9
    have I2 : Inv X pins σ H1 { s1 with heap := h', toks := tk } := I1.kept fun b o e => kept b o (Heap.lt_size e) e
    have le : (nubS xs).length ≤ xs.length := Nat.le_trans (nubS_len_le xs []) (by simp)
    refine call_len_set ho hex hd hf (by rw [hn]; omega) ⟨.int (nubS xs).length, H1, I2.tok _, ⟨_, by rw [hn]⟩, q1⟩
end
end Pi


set_option Elab.async false
set_option linter.all false
set_option maxHeartbeats 0
/-! Parallel assignments with captured names; calls in comprehensions. -/
namespace Pi
open PySem PySem.Spec PyProof.Rows L2
section
variable {X : Cx} {fa ca : Str → Addr} {E0 : L2.St → XK} {T : Ent}
theorem PV.laid {K : Kf} {fa : Fs} {σ : L2.St} {env : PEnv} {F H G : Hp} {v : V} {r : Val} {p : Addr} {o : HO} (rel : Rel K fa F H env σ) (hp : H p = none) (h : PV K fa σ G F H v r) : PV K fa σ G F (upd H p o) v r := by
  cases r with
  | d x => exact h
  | own i => exact h
  | fn f => exact h
  | new xs =>
    obtain ⟨a, vs, h1, h2, h3, h4, h5⟩ := h
    refine ⟨a, vs, h1, h2, ?_, h4, h5⟩
    have z : a ≠ p := fun e => by rw [e, hp] at h3; cases h3
    rw [upd_ne z]; exact h3
theorem tS_par2c {i j : Nat} {oi oj : Bool} {x y : Str} {a b : Expr} {ma mb : PEnv → R Val} {px py pt pos : Pos} {kt k2 pt2} (hc : X.calm = true) (hN : X.N.Nodup) (hi : X.N[i]? = some x) (hj : X.N[j]? = some y) (hx : L2.Loc X.env.scope x) (hy : L2.Loc X.env.scope y) (fx : X.fn x = true ∨ X.env.scope.names.lookup x = some .local) (fy : X.fn y = true ∨ X.env.scope.names.lookup y = some .local)
     (ha : PE X a (tR (Cf X fa ca) E0 ma)) (hb : PE X b (tR (Cf X fa ca) E0 mb))
    (hw : swappedStores [.Tuple [.Name x px, .Name y py] kt pt] (.Tuple [a, b] k2 pt2) X.env = pure none)
    (hs : swapsWithSole [.Tuple [.Name x px, .Name y py] kt pt] (.Tuple [a, b] k2 pt2) pos.line X.env = pure false := by rfl) (h1 : starEach [a, b] X.env = (false, eval a X.env) :: starEach [b] X.env := by rfl) (h2 : starEach [b] X.env = (false, eval b X.env) :: starEach [] X.env := by rfl)
    (h9 : (assignEach [.Tuple [.Name x px, .Name y py] kt pt] X.env).map (·.2) = [assign (.Tuple [.Name x px, .Name y py] kt pt) X.env] := by rfl)
    (h8 : (assignEach [.Name x px, .Name y py] X.env).length = 2 := by rfl) (h7 : (assignEach [.Name x px, .Name y py] X.env).findIdx? (·.1) = none := by rfl)
    (g1 : (assignEach [.Name x px, .Name y py] X.env).map (·.2) = assign (.Name x px) X.env :: (assignEach [.Name y py] X.env).map (·.2) := by rfl)
    (g2 : (assignEach [.Name y py] X.env).map (·.2) = assign (.Name y py) X.env :: (assignEach [] X.env).map (·.2) := by rfl) :
    PS X (.Assign [.Tuple [.Name x px, .Name y py] kt pt] (.Tuple [a, b] k2 pt2) pos) (tS (Cf X fa ca) T E0 (par2S i oi ma j oj mb)) := by
  refine PS.weak (ps_asg (pe_tup (pa_cons ha (pa_cons hb pa_nil h2) h1)) (pg_tup hc (pgs_cons (pg_name hN hi hx fx) (pgs_cons (pg_name hN hj hy fy) pgs_nil g2) g1) h8 h7) hs hw h9) fun Z σ H ⟨env, F, loc, h⟩ => ?_
  refine ⟨env, F, loc.rel, seqOS' loc h fun ra env1 u F1 H1 n1 p1 q1 k1 => ⟨env1, F1, n1.rel, seqOS' (loc.nx n1) k1 fun rb env2 v F2 H2 n2 p2 q2 k2 => ⟨big_line (show _ ≤ _ by simp [big]), fun p hp => ⟨p, [u, v], rfl, SqT.of upd_same, rfl, u, [v], rfl, v, [], rfl, rfl, ?_⟩⟩⟩⟩
  have l2 := (loc.nx n1).nx n2
  have nl : Nx (Cf X fa ca).K (Cf X fa ca).fa σ env2 F2 H2 env2 F2 (upd H2 p (.tup [u, v])) := l2.rel.laidN hp
  have l2' := l2.nx nl
  have p1' := PV.laid (o := .tup [u, v]) l2.rel hp (PV.later loc.rel.nm n1 p1 n2)
  have p2' := PV.laid (o := .tup [u, v]) l2.rel hp p2
  obtain ⟨s, hi', l3, k3, m3⟩ := asg_step l2' p1' q1 (fun a ea ha => ⟨fun m => loc.rel.nm a (n1.sub a (n2.sub a m)) ha, loc.dom ha⟩) k2
  obtain ⟨t, hj', l4, k4, m4⟩ := asg_step l3 p2' q2 (fun b eb hb => ⟨fun m => by
    rcases MA.set_inv hi' m with ⟨mm, ev⟩ | m
    · obtain ⟨xs, er⟩ := m3 mm
      subst er
      obtain ⟨a', vs, ea, _, g1, _⟩ := p1
      rw [ev] at ea
      cases ea
      rw [hb] at g1
      cases g1
    · exact n1.rel.nm b (n2.sub b m) hb, (loc.nx n1).dom hb⟩) k3
  exact k4 _ F2 _ l4 (Evl.Ex.refl _)
theorem tS_par3c {i j l : Nat} {oi oj ol : Bool} {x y z : Str} {a b c : Expr} {ma mb mc : PEnv → R Val} {px py pz pt pos : Pos} {kt k2 pt2} (hc : X.calm = true) (hN : X.N.Nodup) (hi : X.N[i]? = some x) (hj : X.N[j]? = some y) (hl : X.N[l]? = some z) (hx : L2.Loc X.env.scope x) (hy : L2.Loc X.env.scope y) (hz : L2.Loc X.env.scope z) (fx : X.fn x = true ∨ X.env.scope.names.lookup x = some .local) (fy : X.fn y = true ∨ X.env.scope.names.lookup y = some .local) (fz : X.fn z = true ∨ X.env.scope.names.lookup z = some .local)
     (ha : PE X a (tR (Cf X fa ca) E0 ma)) (hb : PE X b (tR (Cf X fa ca) E0 mb)) (hcc : PE X c (tR (Cf X fa ca) E0 mc))
    (hw : swappedStores [.Tuple [.Name x px, .Name y py, .Name z pz] kt pt] (.Tuple [a, b, c] k2 pt2) X.env = pure none)
    (hs : swapsWithSole [.Tuple [.Name x px, .Name y py, .Name z pz] kt pt] (.Tuple [a, b, c] k2 pt2) pos.line X.env = pure false := by rfl) (h1 : starEach [a, b, c] X.env = (false, eval a X.env) :: starEach [b, c] X.env := by rfl) (h2 : starEach [b, c] X.env = (false, eval b X.env) :: starEach [c] X.env := by rfl) (h3 : starEach [c] X.env = (false, eval c X.env) :: starEach [] X.env := by rfl)
    (h9 : (assignEach [.Tuple [.Name x px, .Name y py, .Name z pz] kt pt] X.env).map (·.2) = [assign (.Tuple [.Name x px, .Name y py, .Name z pz] kt pt) X.env] := by rfl)
    (h8 : (assignEach [.Name x px, .Name y py, .Name z pz] X.env).length = 3 := by rfl) (h7 : (assignEach [.Name x px, .Name y py, .Name z pz] X.env).findIdx? (·.1) = none := by rfl)
    (g1 : (assignEach [.Name x px, .Name y py, .Name z pz] X.env).map (·.2) = assign (.Name x px) X.env :: (assignEach [.Name y py, .Name z pz] X.env).map (·.2) := by rfl)
    (g2 : (assignEach [.Name y py, .Name z pz] X.env).map (·.2) = assign (.Name y py) X.env :: (assignEach [.Name z pz] X.env).map (·.2) := by rfl)
    (g3 : (assignEach [.Name z pz] X.env).map (·.2) = assign (.Name z pz) X.env :: (assignEach [] X.env).map (·.2) := by rfl) :
    PS X (.Assign [.Tuple [.Name x px, .Name y py, .Name z pz] kt pt] (.Tuple [a, b, c] k2 pt2) pos) (tS (Cf X fa ca) T E0 (par3S i oi ma j oj mb l ol mc)) := by
  refine PS.weak (ps_asg (pe_tup (pa_cons ha (pa_cons hb (pa_cons hcc pa_nil h3) h2) h1)) (pg_tup hc (pgs_cons (pg_name hN hi hx fx) (pgs_cons (pg_name hN hj hy fy) (pgs_cons (pg_name hN hl hz fz) pgs_nil g3) g2) g1) h8 h7) hs hw h9) fun Z σ H ⟨env, F, loc, h⟩ => ?_
  refine ⟨env, F, loc.rel, seqOS' loc h fun ra env1 u F1 H1 n1 p1 q1 k1 => ⟨env1, F1, n1.rel, seqOS' (loc.nx n1) k1 fun rb env2 v F2 H2 n2 p2 q2 k2 => ⟨env2, F2, n2.rel, seqOS' ((loc.nx n1).nx n2) k2 fun rc env3 w F3 H3 n3 p3 q3 k3 => ⟨big_line (show _ ≤ _ by simp [big]), fun p hp => ⟨p, [u, v, w], rfl, SqT.of upd_same, rfl, u, [v, w], rfl, v, [w], rfl, w, [], rfl, rfl, ?_⟩⟩⟩⟩⟩
  have l3 := ((loc.nx n1).nx n2).nx n3
  have nl : Nx (Cf X fa ca).K (Cf X fa ca).fa σ env3 F3 H3 env3 F3 (upd H3 p (.tup [u, v, w])) := l3.rel.laidN hp
  have l3' := l3.nx nl
  have p2' := PV.laid (o := .tup [u, v, w]) l3.rel hp (PV.later n1.rel.nm n2 p2 n3)
  have p1' := PV.laid (o := .tup [u, v, w]) l3.rel hp (PV.later loc.rel.nm n1 p1 (n2.trans n3))
  have p3' := PV.laid (o := .tup [u, v, w]) l3.rel hp p3
  obtain ⟨s1, hi', l4, k4, m4⟩ := asg_step l3' p1' q1 (fun a ea ha => ⟨fun m => loc.rel.nm a (n1.sub a (n2.sub a (n3.sub a m))) ha, loc.dom ha⟩) k3
  have p1n : ∀ b, (∃ xs, ra = .new xs) → u = .ref b → H1 b ≠ none := fun b ⟨xs, er⟩ eu => by
    subst er
    obtain ⟨a', vs, ea, _, g1, _⟩ := p1
    rw [eu] at ea
    cases ea
    rw [g1]; simp
  have p2n : ∀ b, (∃ xs, rb = .new xs) → v = .ref b → H2 b ≠ none := fun b ⟨xs, er⟩ eu => by
    subst er
    obtain ⟨a', vs, ea, _, g1, _⟩ := p2
    rw [eu] at ea
    cases ea
    rw [g1]; simp
  have dom12 : ∀ b, H2 b = none → H1 b = none := fun b hb => by
    cases q : H1 b with
    | none => rfl
    | some o => exact absurd hb (n2.adv.dom b (by rw [q]; simp))
  obtain ⟨s2, hj', l5, k5, m5⟩ := asg_step l4 p2' q2 (fun b eb hb => ⟨fun m => by
    rcases MA.set_inv hi' m with ⟨mm, ev⟩ | m
    · exact p1n b (m4 mm) ev (hb)
    · exact n1.rel.nm b (n2.sub b (n3.sub b m)) hb, (loc.nx n1).dom hb⟩) k4
  obtain ⟨s3, hl', l6, k6, m6⟩ := asg_step l5 p3' q3 (fun b eb hb => ⟨fun m => by
    rcases MA.set_inv hj' m with ⟨mm, ev⟩ | m
    · exact p2n b (m5 mm) ev hb
    · rcases MA.set_inv hi' m with ⟨mm, ev⟩ | m
      · exact p1n b (m4 mm) ev (dom12 b hb)
      · exact n2.rel.nm b (n3.sub b m) hb, ((loc.nx n1).nx n2).dom hb⟩) k5
  exact k6 _ F3 _ l6 (Evl.Ex.refl _)
end
end Pi


set_option Elab.async false
set_option linter.all false
set_option maxHeartbeats 0
set_option autoImplicit false
/-! Pi24: what the printed defs use -/
namespace Pi
open PySem PySem.Spec PyProof.Rows L2


structure Hu (A : Around) : Prop where
  one : A.units + 1 < cLine
  u64 : A.units + 64 < cLine
  u65 : A.units + 65 < cLine
  u110 : A.units + 110 < cLine
theorem Hu.of {k : Nat} {A : Around} (r : Room k A) : Hu A := by
  have := r.un
  exact ⟨by omega, by omega, by omega, by omega⟩
section
variable {P : Program} {w : World} {K : Kf} {mg : Str → Option Value} {base : Heap} {qual : Str} {scope : Scope} {N : List Str} {f : Addr} {cdv : Value} {A : Around} {outer : List Env} {s : Shared} {H : Hp} {E : XK}
abbrev WU (E : XK) : WX := fun cls d _ H => E cls d H
theorem tk_of : Takes (cxOf (L2.CX P w) P w K mg base N qual scope f cdv A outer s H E) (WU E) := takes_of rfl rfl rfl rfl
theorem hp_of (σ : L2.St) : PassesAt (L2.CX P w) (cxOf (L2.CX P w) P w K mg base N qual scope f cdv A outer s H E) σ E := passAt (W := WU E) tk_of σ
theorem hpo_of : PassesOwn (model P w) (A.deeper (envOfC qual scope s.heap.objs.size f cdv)) (envOfC qual scope s.heap.objs.size f cdv) (cxOf (L2.CX P w) P w K mg base N qual scope f cdv A outer s H E).xe := passes_of (X := cxOf (L2.CX P w) P w K mg base N qual scope f cdv A outer s H E) rfl
end
theorem passB {X : Cx} (σ : L2.St) : PassesAt (L2.CX X.prog X.w) X σ (noE σ) := fun _ _ _ _ _ _ c => by
  obtain ⟨_, _, _, _, _, _, _, _, _, _, _, _, z⟩ := c
  exact z.elim
theorem passX {X : Cx} : Passes (L2.CX X.prog X.w) X (fun _ _ _ => False) := fun _ _ _ _ _ _ _ c => by
  obtain ⟨_, _, _, _, _, _, _, _, _, _, _, _, z⟩ := c
  exact z.elim
/-! ### operators that read several kinds -/
def orD (g h : D → D → Option Val) : D → D → Option Val := fun x y => match g x y with
  | some r => some r
  | none => h x y
section
variable {X : Cx} {fa ca : Str → Addr}
theorem op_orD {op : Value → Value → Sem Value} {g h : D → D → Option Val} (hg : OpR X op (r2 (Cf X fa ca) g)) (hh : OpR X op (r2 (Cf X fa ca) h)) : OpR X op (r2 (Cf X fa ca) (orD g h)) := by
  intro pins s σ H x y v u Q I rx ry hq
  obtain ⟨σ', env, F, dx, dy, res, rel, cx, cy, e, q⟩ := hq
  unfold orD at e
  cases eg : g dx dy with
  | some r => rw [eg] at e; cases e; exact hg pins s σ H x y v u Q I rx ry ⟨σ', env, F, dx, dy, _, rel, cx, cy, eg, q⟩
  | none => rw [eg] at e; exact hh pins s σ H x y v u Q I rx ry ⟨σ', env, F, dx, dy, _, rel, cx, cy, e, q⟩
def inDX := orD inD inD2
def notinDX := orD (orD notinD notinD2) notinD3
theorem op_inDX (hu : X.A.units + 65 < cLine) : OpR X (compareOp .In) (r2 (Cf X fa ca) inDX) := op_orD (op_inDd hu) (op_inD2 hu)
theorem op_notinDX (hu : X.A.units + 65 < cLine) : OpR X (compareOp .NotIn) (r2 (Cf X fa ca) notinDX) := op_orD (op_orD (op_notinDd hu) (op_notinD2 hu)) (op_notinD3 hu)
end
/-! ### defs by their names -/
section
variable {P : Program} {w : World} {K : Kf} {mg : Str → Option Value} {base : Heap} {fa ca : Str → Addr} {j k np : Nat} {x : Str} {f : Fn}
theorem DefOk.mono (d : DefOk P w K mg base fa ca j x np f) (h : j ≤ k) : DefOk P w K mg base fa ca k x np f := by
  obtain ⟨fd, ps, G, r⟩ := d.ex
  exact ⟨fd, ps, G.mono h, r⟩
theorem DefOk.mg_eq (d : DefOk P w K mg base fa ca j x np f) : mg x = some (.ref (fa x)) := by
  obtain ⟨fd, ps, G, _, _, m, _⟩ := d.ex
  exact m
def tbOf : List (Str × Fn) → Str → Option Fn
  | [], _ => none
  | (y, f) :: r, x => if x = y then some f else tbOf r x
theorem AL_nil : ∀ x fn, tbOf [] x = some fn → ∃ np, DefOk P w K mg base fa ca k x np fn := fun _ _ e => nomatch e
theorem AL_cons {y : Str} {g : Fn} {r : List (Str × Fn)} (d : DefOk P w K mg base fa ca j y np g) (h : j ≤ k) (t : ∀ x fn, tbOf r x = some fn → ∃ np, DefOk P w K mg base fa ca k x np fn) : ∀ x fn, tbOf ((y, g) :: r) x = some fn → ∃ np, DefOk P w K mg base fa ca k x np fn := by
  intro x fn e
  unfold tbOf at e
  by_cases z : x = y
  · rw [if_pos z] at e
    cases e
    subst z
    exact ⟨np, d.mono h⟩
  · rw [if_neg z] at e
    exact t x fn e
/-- a def that is called by keywords -/
structure KwOk (P : Program) (w : World) (K : Kf) (mg : Str → Option Value) (base : Heap) (fa ca : Str → Addr) (k : Nat) (x : Str) (ks : List Str) (pm : List Nat) (f : Fn) : Prop where
  ex : ∃ fd ps, FnG P w K mg base (L2.CX P w) k (fa x) fd ps (spOf ⟨K, ⟨fa, P, w⟩, ca⟩ f) ∧ PySem.W.keepIn K (.ref (fa x)) = true ∧ KwB K fd ps ks pm ∧ mg x = some (.ref (fa x))
end
theorem e_callKD {X : Cx} {fa ca : Str → Addr} {E0 : L2.St → XK} {k : Nat} {x : Str} {p pos : Pos} {f : Fn} {ms : PEnv → R (List Val)} {kws : List Keyword} {ks : List Str} {pm : List Nat} (G : KwOk X.prog X.w X.K X.mg X.base fa ca k x ks pm f) (room : Room k X.A) (gd : X.A.guards = some []) (hg : Gl X x)
    (hp : ∀ σ, PassesAt (L2.CX X.prog X.w) X σ (E0 σ)) (hkw : PK X kws (tRA (Cf X fa ca) E0 ms)) (hn : kws.length = ks.length) (hlen : ∀ env rs env', ms env = .ok rs env' → rs.length = ks.length) (hall : (backToKw pos (keywordEach kws X.env)).all (·.1.isSome) = true := by rfl) (hks : (backToKw pos (keywordEach kws X.env)).filterMap (·.1) = ks := by rfl)
    (hdb : (x == ("__debug__" : Str)) = false := by decide) (hpl : ((backTo pos (starEach [] X.env)).any (·.1) || (backToKw pos (keywordEach kws X.env)).any (·.1.isNone)) = false := by rfl) :
    PE X (.Call (.Name x p) [] kws pos) (tR (Cf X fa ca) E0 (callKE f pm ms)) := by
  obtain ⟨fd, ps, G, hk, bd, hm⟩ := G.ex
  exact e_callK (tk := fun _ _ _ => True) G room gd hg hm hk bd hp hkw hn hlen hall hks hdb hpl
/-- an error class of the program, without a context -/
structure ErrD (P : Program) (w : World) (K : Kf) (mg : Str → Option Value) (base : Heap) (c : Str) (C : Addr) : Prop where
  T : OexC K C
  no : PySem.W.findIn K (.ref C) "value" = some none
  gl : mg c = some (.ref C)
  ex : ∃ fI fd, PySem.W.findIn K (.ref C) "__init__" = some (some (.ref fI)) ∧ PySem.W.typeIn K (.ref fI) = some (.type "function") ∧ FnOk P w K mg base (L2.CX P w) 2 fI fd ["self", "value"] (spI1 K) ∧ Binds K fd ["self", "value"] []
theorem tS_raiseD {X : Cx} {fa ca : Str → Addr} {T : Ent} {W : WX} {c : Str} {e : Expr} {m : PEnv → R Val} {p pos pos2 : Pos} (hc : X.calm = true) (tk : Takes X W) (ec : ErrD X.prog X.w X.K X.mg X.base c (ca c)) (hr : Room 3 X.A) (hg : Gl X c) (he : PE X e (tR (Cf X fa ca) (WE W) m)) (hdb : (c == ("__debug__" : Str)) = false := by decide)
    (hs : starEach (e :: []) X.env = (false, eval e X.env) :: starEach [] X.env := by rfl) (hpl : (backTo pos (starEach [] X.env)).any (·.1) = false := by rfl) : PS X (.Raise (some (.Call (.Name c p) [e] [] pos)) none pos2) (tS (Cf X fa ca) T (WE W) (raiseS c m)) := by
  obtain ⟨fI, fd, h1, h2, h3, h4⟩ := ec.ex
  exact tS_raise hc tk ⟨ec.T, h1, h2, ec.no, h3, h4, ec.gl⟩ hr passX hg he hdb hs hpl
end Pi


set_option Elab.async false
set_option linter.all false
set_option maxHeartbeats 0
set_option maxRecDepth 100000
set_option autoImplicit false
/-! Pi25: the law's end for a promise that wants no repr under way -/
namespace Pi
open PySem PySem.Spec PyProof.Rows L2
theorem noNil {α : Type} {b : α} (h : b ∈ ([] : List α)) : False := by cases h
section
variable {P : Program} {w : World} {K : PySem.W.Frag} {mg mb : Str → Option Value} {CX : CXT} {k : Nat} {fa a : Addr} {fd : FuncData} {x : Str} {sp : Sp} {S : Shared} {us : List Value} {ks : List Int} {G : Hp}
abbrev GoodEnd (S : Shared) : Result → Shared → Prop := fun r S' => r = .ok (.ret (.bool true)) ∧ OldK S.heap S'.heap ∧ S'.os = S.os ∧ AllBare S'.gens
/-- from one tracked heap -/
theorem lawAt (KX : K.In S.heap) (hns : S.heap.Ns mainGlobals mg) (hb : S.heap.Ns builtinsNs mb) (hbb : ∀ y : Str, y ≠ "__name__" → mb y = bootBuiltins y) (hlim : S.heap.NoLimit) (hgn : S.gens = #[])
    (obj : S.heap.get? a = some { cls := .type "list", data := .seq us.toArray }) (rm : Room k callerA) (FF : ∀ base : Heap, K.In base → base.Ns mainGlobals mg → FnG P w K mg base CX k fa fd [x] sp) (bnd : ∀ (t : Shared) (u : Value), BindsTo t fd ⟨[u], []⟩ [(x, u)])
    (prm : sp [.ref a] G (fun v _ => v = .bl true) fun _ _ _ => False) (nex : ∀ H e t, CX [] H S (fun _ _ _ => False) e t → False)
    (frz : ∀ b, G b = none ∨ ∃ o xs, G b = some (.frz o (.lst xs))) (hok : HOk P w G S.heap) (only : ∀ b, G b ≠ none → b = a) (notK : G a ≠ none → K.lookup a = none) : codeAny (model P w) callerA (.call (.ref fa) ⟨[.ref a], []⟩) (GoodEnd S) S := by
  have hide : ∀ {b : Addr} {o : Obj}, S.heap.get? b = some o → G b = none → (hidT S.heap G).get? b = some o := fun g n => hidT_get g n
  have dictFree : ∀ {b : Addr} {o : Obj} {es : Array DictEntry} {ep : Nat}, S.heap.get? b = some o → o.data = .dict es ep → G b = none := by
    intro b o es ep g d
    apply Classical.byContradiction
    intro z
    rw [only b z, obj] at g
    rw [← Option.some.inj g] at d
    exact Data.noConfusion d
  have nss : ∀ {b : Addr} {m : Str → Option Value}, S.heap.Ns b m → (hidT S.heap G).Ns b m := by
    rintro b m ⟨o, es, ep, g, d, r⟩
    exact ⟨o, es, ep, hide g (dictFree g d), d, r⟩
  have inK : K.In (hidT S.heap G) := by
    intro b o g
    refine hide (KX b o g) (Classical.byContradiction fun z => ?_)
    have eb := only b z
    subst eb
    rw [notK z] at g
    cases g
  obtain ⟨mc, l1, l2⟩ := hlim
  have env0 : Env0 P w K mg (hidT S.heap G) callerA [] S G := by
    refine ⟨rfl, ⟨inK, nss hns, ⟨mb, nss hb, hbb⟩, mc, nss l1, l2⟩, fun b o g => of_hidT g, Nat.le_of_eq (hidT_size _ _), trivial, ?_, hok, .of_eq hgn⟩
    intro b z
    exact (noNil (show b ∈ ([] : List Addr) from z)).elim
  have ran := (FF _ inK (nss hns)).run callerA [] S G ⟨[.ref a], []⟩ [.ref a] [.ref a] _ _ rm rfl env0 (bnd S (.ref a)) (.cons rfl .nil) prm
  refine codeAny_mono ran ?_
  intro r S' h
  match r, h with
  | .error e, h => exact (nex G e S' h).elim
  | .ok .next, h => exact False.elim h
  | .ok .brk, h => exact False.elim h
  | .ok .cont, h => exact False.elim h
  | .ok (.ret u), h =>
    obtain ⟨v, G', os, bare, un, hok', ru, vt⟩ := h
    have vt : v = .bl true := vt
    subst vt
    have ru : u = Value.bool true := ru
    subst ru
    refine ⟨rfl, OldK.of_keep ?_, os, bare⟩
    intro b o g
    rcases frz b with z | ⟨ob, xs, z⟩
    · exact un.keep b o g z (fun m => noNil (show b ∈ ([] : List Addr) from m)) (fun m => noNil m)
    · have h1 := (hok b _ z).1
      have h2 := (hok' b _ (un.frzs b ob _ z)).1
      rw [g] at h1
      rw [Option.some.inj h1]
      exact h2
/-- the law's call, from what stands behind the top -/
theorem lawG (KX : K.In S.heap) (hns : S.heap.Ns mainGlobals mg) (hb : S.heap.Ns builtinsNs mb) (hbb : ∀ y : Str, y ≠ "__name__" → mb y = bootBuiltins y) (hlim : S.heap.NoLimit) (hgn : S.gens = #[])
    (obj : S.heap.get? a = some { cls := .type "list", data := .seq us.toArray }) (hint : IntsAre us ks) (few : ks.length ≤ sizeLine) (rm : Room k callerA) (FF : ∀ base : Heap, K.In base → base.Ns mainGlobals mg → FnG P w K mg base CX k fa fd [x] sp)
    (bnd : ∀ (t : Shared) (u : Value), BindsTo t fd ⟨[u], []⟩ [(x, u)]) (prm : ∀ H : Hp, Only H → SqL K H a (ks.map V.int) → sp [.ref a] H (fun v _ => v = .bl true) fun _ _ _ => False)
    (nex : ∀ H e t, CX [] H S (fun _ _ _ => False) e t → False) : codeAny (model P w) callerA (.call (.ref fa) ⟨[.ref a], []⟩) (GoodEnd S) S := by
  have vals := vals_ints hint
  cases lk : K.lookup a with
  | some o =>
    have g := KX a o lk
    rw [obj] at g
    have g := (Option.some.inj g).symm
    subst g
    have seq : SqL K (fun _ => none) a (ks.map V.int) := .inr ⟨_, us.toArray, _, lk, rfl, rfl, rfl, by rw [List.size_toArray, hint.length]; exact few, by simpa using vals⟩
    exact lawAt KX hns hb hbb hlim hgn obj rm FF bnd (prm _ (fun _ => .inl rfl) seq) nex (fun _ => .inl rfl) (fun b u z => nomatch (show (none : Option HO) = some u from z)) (fun b z => absurd rfl z) fun z => absurd rfl z
  | none =>
    let o : Obj := { cls := .type "list", data := .seq us.toArray }
    have at1 : ∀ b, b = a → (fun b : Addr => if b = a then some (HO.frz o (.lst (ks.map V.int))) else none) b = some (.frz o (.lst (ks.map V.int))) := fun b z => if_pos z
    have at0 : ∀ b, b ≠ a → (fun b : Addr => if b = a then some (HO.frz o (.lst (ks.map V.int))) else none) b = none := fun b z => if_neg z
    revert at1 at0
    generalize (fun b : Addr => if b = a then some (HO.frz o (.lst (ks.map V.int))) else none) = G
    intro at1 at0
    have onl : ∀ b, G b = none ∨ ∃ o xs, G b = some (.frz o (.lst xs)) := fun b => by
      rcases Decidable.em (b = a) with z | z
      · exact .inr ⟨_, _, at1 b z⟩
      · exact .inl (at0 b z)
    refine lawAt (G := G) KX hns hb hbb hlim hgn obj rm FF bnd (prm G onl (.inl (.inr ⟨o, at1 a rfl⟩))) nex onl ?_ ?_ fun _ => lk
    · intro b u z
      rcases Decidable.em (b = a) with e | e
      · rw [at1 b e] at z
        have z := (Option.some.inj z).symm
        subst z
        subst e
        exact ⟨obj, by rw [List.length_map]; exact few, us, _, vals, obj⟩
      · rw [at0 b e] at z
        cases z
    · intro b z
      exact Classical.byContradiction fun e => z (at0 b e)
end
/-- a law whose def keeps its promise over every base -/
theorem walkG {l : PySem.W.OpenLaw} {n k : Nat} {q : Program} {loose : List Str} {XP : (Str → Option Value) → Heap → Prop} {YP : World → Heap → Prop} {d : DefRec} {CX : World → CXT} {x : Str} (hn : l.most = some n) (small : n ≤ sizeLine) (nod : d.params.defaults = []) (rm : Room k callerA)
    (give : ∀ (w : World) (mg : Str → Option Value) (fa : Addr) (h : Heap), YP w h → h.Ns mainGlobals mg → mg d.name = some (.ref fa) → ∃ (K : PySem.W.Frag) (fd : FuncData) (sp : Sp), K.In h ∧ (∀ (t : Shared) (u : Value), BindsTo t fd ⟨[u], []⟩ [(x, u)]) ∧
      (∀ (H : Hp) (a : Addr) (ks : List Int), ks.length ≤ n → Only H → SqL K H a (ks.map V.int) → sp [.ref a] H (fun v _ => v = .bl true) fun _ _ _ => False) ∧ ∀ base : Heap, K.In base → base.Ns mainGlobals mg → FnG l.prog w K mg base (CX w) k fa fd [x] sp)
    (nex : ∀ (w : World) (H : Hp) (t : Shared) (e : Value) (t' : Shared), CX w [] H t (fun _ _ _ => False) e t' → False) : PySem.W.WalkO q loose XP YP l.row.toRowW d [] (fun f vs => PySem.call f vs) := by
  refine Att.attach_call hn nod ?_
  intro w s0 S mg mb fa o pm cd doc a us ks G Y ho hd hcd hmg obj hint len hg
  obtain ⟨K, fd, sp, KX, hb, prm, FF⟩ := give w mg fa _ Y G.T.g hmg
  exact lawG KX G.T.g G.T.b G.T.builtins G.T.nolimit hg obj hint (Nat.le_trans len small) rm FF hb (fun H o s => prm H a ks len o s) fun H e t => nex w H S e t
end Pi


set_option Elab.async false
set_option linter.all false
set_option maxHeartbeats 0
set_option maxRecDepth 100000
set_option autoImplicit false
/-! Pi26: what a head must tell of the defs' surroundings -/
namespace Pi
open PySem PySem.Spec PyProof.Rows L2
/-! ### checks that a machine can make -/
/-- the value u is this data -/
def rpB (K : Kf) : Nat → Value → D → Bool
  | 0, _, _ => false
  | n + 1, u, d => match d with
    | .none => (match u with
      | .none => true
      | _ => false)
    | .bool b => (match u with
      | .bool c => b == c
      | _ => false)
    | .int i => (match u with
      | .int j _ => decide (i = j)
      | _ => false)
    | .str x => (match u with
      | .str y _ => decide (x = y)
      | _ => false)
    | .tuple ds => (match u with
      | .ref a => (match K.lookup a with
        | some ⟨.type c, _, .seq its _, _⟩ => decide (c = "tuple") && (decide (its.size ≤ sizeLine) && (decide (its.toList.length = ds.length) && (its.toList.zip ds).all fun p => rpB K n p.1 p.2))
        | _ => false)
      | _ => false)
    | _ => false
theorem rpB_ok {K : Kf} : ∀ (n : Nat) (u : Value) (d : D), rpB K n u d = true → ∃ v, RelV v u ∧ Rp K (fun _ => none) v d
  | 0, _, _, h => by cases h
  | n + 1, u, d, h => by
    cases d with
    | none => cases u with
      | none => exact ⟨.non, rfl, .non⟩
      | _ => cases h
    | bool b => cases u with
      | bool c =>
        have e : b = c := eq_of_beq (show (b == c) = true from h)
        subst e
        exact ⟨.bl b, rfl, .bl b⟩
      | _ => cases h
    | int i => cases u with
      | int j t =>
        have e : i = j := of_decide_eq_true h
        subst e
        exact ⟨.int i, ⟨t, rfl⟩, .int i⟩
      | _ => cases h
    | str x => cases u with
      | str y t =>
        have e : x = y := of_decide_eq_true h
        subst e
        exact ⟨.str x, ⟨t, rfl⟩, .str x⟩
      | _ => cases h
    | list ds => cases h
    | dict ds => cases h
    | tuple ds => cases u with
      | ref a =>
        have h : (match K.lookup a with
          | some ⟨.type c, _, .seq its _, _⟩ => decide (c = "tuple") && (decide (its.size ≤ sizeLine) && (decide (its.toList.length = ds.length) && (its.toList.zip ds).all fun p => rpB K n p.1 p.2))
          | _ => false) = true := h
        cases lk : K.lookup a with
        | none => rw [lk] at h; cases h
        | some o =>
          obtain ⟨oc, od, dt, sl⟩ := o
          rw [lk] at h
          cases oc with
          | type c =>
            cases dt with
            | seq its m =>
              obtain ⟨h1, h⟩ := He.ba (show (decide (c = "tuple") && (decide (its.size ≤ sizeLine) && (decide (its.toList.length = ds.length) && (its.toList.zip ds).all fun p => rpB K n p.1 p.2))) = true from h)
              obtain ⟨h2, h⟩ := He.ba h
              obtain ⟨h3, h4⟩ := He.ba h
              have key : ∀ (us : List Value) (es : List D), us.length = es.length → ((us.zip es).all fun p => rpB K n p.1 p.2) = true → ∃ vs, Vals vs us ∧ RpA K (fun _ => none) vs es := by
                intro us
                induction us with
                | nil => intro es l _; cases es with
                  | nil => exact ⟨[], .nil, .nil⟩
                  | cons e es => cases l
                | cons u us ih => intro es l z; cases es with
                  | nil => cases l
                  | cons e es =>
                    obtain ⟨z1, z2⟩ := He.ba (show (rpB K n u e && ((us.zip es).all fun p => rpB K n p.1 p.2)) = true from z)
                    obtain ⟨v, r1, r2⟩ := rpB_ok n u e z1
                    obtain ⟨vs, q1, q2⟩ := ih es (Nat.succ.inj l) z2
                    exact ⟨v :: vs, .cons r1 q1, .cons r2 q2⟩
              obtain ⟨vs, q1, q2⟩ := key _ _ (of_decide_eq_true h3) h4
              exact ⟨.ref a, rfl, .tup (.inr ⟨_, its, m, lk, congrArg Value.type (of_decide_eq_true h1), rfl, of_decide_eq_true h2, q1⟩) q2⟩
            | _ => cases h
          | _ => cases dt <;> cases h
      | _ => cases h
/-- the module's name g is this data -/
def conB (K : Kf) (g : Str) (d : D) : Bool := match PySem.W.nsIn K mainGlobals g with
  | some (some u) => rpB K 6 u d
  | _ => false
theorem conB_ok {K : Kf} {h : Heap} {mg : Str → Option Value} (X : K.In h) (G : h.Ns mainGlobals mg) {g : Str} {d : D} (c : conB K g d = true) : KD K mg g d := by
  unfold conB at c
  cases e : PySem.W.nsIn K mainGlobals g with
  | none => rw [e] at c; cases c
  | some o =>
    rw [e] at c
    cases o with
    | none => cases c
    | some u =>
      obtain ⟨v, r1, r2⟩ := rpB_ok 6 u d c
      exact ⟨u, v, PySem.W.mg_of X G e, r1, r2⟩
/-- the table at a has these values -/
def tabB (K : Kf) (a : Addr) (tbl : List (Str × D)) : Bool := tbl.all fun q => match PySem.W.nsIn K a q.1 with
  | some (some u) => rpB K 6 u q.2
  | _ => false
theorem lookup_in {α : Type} {k : Str} {d : α} : ∀ {l : List (Str × α)}, l.lookup k = some d → (k, d) ∈ l
  | [], h => by cases h
  | (j, e) :: r, h => by
    cases z : (k == j) with
    | true =>
      rw [List.lookup_cons, z] at h
      cases h
      rw [beq_iff_eq.mp z]
      exact List.mem_cons_self
    | false =>
      rw [List.lookup_cons, z] at h
      exact List.mem_cons_of_mem _ (lookup_in h)
theorem keys_find {P : Params} {k : Str} : ∀ {l : List DictEntry} {ks : List Str}, l.map He.keyOf = He.keysIn P ks → k ∉ ks → l.find? (fun e => e.key.isStr k) = none ∧ l.any (fun e => e.refKey) = false
  | [], _, _, _ => ⟨rfl, rfl⟩
  | e :: r, [], h, _ => by cases h
  | e :: r, j :: js, h, n => by
    have h : He.keyOf e :: r.map He.keyOf = some (j, PyData.keyHash P j) :: He.keysIn P js := h
    injection h with h1 h2
    obtain ⟨f1, f2⟩ := keys_find (k := k) h2 (fun m => n (List.mem_cons_of_mem _ m))
    have h3 : ∃ t, e.key = .str j t := by
      unfold He.keyOf at h1
      split at h1
      · rename_i y t q
        obtain ⟨h4, _⟩ := Prod.mk.inj (Option.some.inj h1)
        exact ⟨t, by rw [q, h4]⟩
      · cases h1
    obtain ⟨t, ek⟩ := h3
    have h5 : e.key.isStr k = false := by
      rw [ek]
      show (j == k) = false
      cases z : (j == k) with
      | false => rfl
      | true => exact absurd (beq_iff_eq.mp z ▸ List.mem_cons_self) n
    have h6 : e.refKey = false := by unfold DictEntry.refKey; rw [ek]
    exact ⟨by rw [List.find?_cons, h5]; exact f1, by rw [List.any_cons, h6, f2]; rfl⟩
theorem ktab_ok {K : Kf} {w : World} {a : Addr} {tbl : List (Str × D)} (h : He.dicW K a = some (He.keysIn w.params (tbl.map (·.1)))) (hv : tabB K a tbl = true) : KTab K w a tbl := by
  obtain ⟨es, n, kd⟩ := He.dicW_ok h
  refine ⟨⟨es, n, kd⟩, fun k d e => ?_, fun k e => ?_⟩
  · have z := List.all_eq_true.mp hv _ (lookup_in e)
    dsimp only at z
    cases q : PySem.W.nsIn K a k with
    | none => rw [q] at z; cases z
    | some o =>
      rw [q] at z
      cases o with
      | none => cases z
      | some u =>
        obtain ⟨v, r1, r2⟩ := rpB_ok 6 u d z
        exact ⟨u, v, rfl, r1, r2⟩
  · have hm : es.toList.map He.keyOf = He.keysIn w.params (tbl.map (·.1)) := by
      unfold He.dicW at h
      rw [kd.at_] at h
      have z : (decide (("dict" : String) = "dict") && ((#[] : Array (Option Value)).isEmpty && !(a == sysModules))) = true := by rw [kd.low]; rfl
      dsimp only at h
      rw [z] at h
      exact Option.some.inj h
    have nk : k ∉ tbl.map (·.1) := fun m => by
      obtain ⟨p, hp, ep⟩ := List.mem_map.mp m
      have : tbl.lookup k ≠ none := fun e2 => by
        have := List.lookup_eq_none_iff.mp e2 p hp
        rw [ep] at this
        simp at this
      exact this e
    obtain ⟨f1, f2⟩ := keys_find hm nk
    unfold PySem.W.nsIn
    rw [kd.at_]
    dsimp only
    rw [f1]
    dsimp only
    rw [f2]
    rfl
/-- a class of errors -/
def oexB (K : Kf) (C : Addr) : Bool := (match K.lookup C with
  | some ⟨.type t, _, .cls cd, sl⟩ => decide (t = "type") && (match cd.mro, sl.toList with
    | .ref C' :: bm, [_, _, _, _, some (.builtin n), _] => decide (C' = C) && (decide (n = "ValueError.__new__") && (!cd.hasDel && (cd.hasDict && PySem.HandSPX.refsVE bm)))
    | _, _ => false)
  | _ => false) && (He.eqO (PySem.W.findIn K (.ref C) "__setattr__") (some (some (.builtin "object.__setattr__"))) && (decide (PySem.W.subIn K (.ref C) (.type "BaseException") = some true) && (decide (PySem.W.typeIn K (.ref C) = some (.type "type")) && PySem.W.keepIn K (.ref C))))
theorem oexB_ok {K : Kf} {C : Addr} (h : oexB K C = true) : OexC K C := by
  obtain ⟨h1, h⟩ := He.ba h
  obtain ⟨h2, h⟩ := He.ba h
  obtain ⟨h3, h⟩ := He.ba h
  obtain ⟨h4, h5⟩ := He.ba h
  refine ⟨?_, He.eqO_ok h2, of_decide_eq_true h3, of_decide_eq_true h4, h5⟩
  split at h1
  · rename_i t dd cd sl lk
    obtain ⟨z1, h1⟩ := He.ba h1
    have z1 := of_decide_eq_true z1
    subst z1
    split at h1
    · rename_i C' bm k0 k1 k2 k3 n k5 hm hs
      obtain ⟨_, h1⟩ := He.ba h1
      obtain ⟨z2, h1⟩ := He.ba h1
      obtain ⟨z3, h1⟩ := He.ba h1
      obtain ⟨z4, h1⟩ := He.ba h1
      obtain ⟨z5, z6⟩ := He.ba h1
      have z2 := of_decide_eq_true z2
      have z3 := of_decide_eq_true z3
      subst z2 z3
      obtain ⟨nm, bs, mro, ns, qn, hd, sn, sub, ab, col, del⟩ := cd
      dsimp only at hm z4 z5
      have z4 : del = false := by cases del with
        | false => rfl
        | true => cases z4
      subst hm z4 z5
      obtain ⟨sl⟩ := sl
      dsimp only at hs
      subst hs
      exact ⟨nm, qn, ns, bs, bm, sn, sub, ab, col, dd, k0, k1, k2, k3, k5, lk, z6⟩
    · cases h1
  · cases h1
def clsfnB (K : Kf) (C0 f : Addr) (m : Str) : Bool := He.eqO (PySem.W.specialIn K (.ref C0) "__getattribute__") (some (some (.builtin "type.__getattribute__"))) && (PySem.W.readsIn K C0 (.type "type") && ((match PySem.W.findCls K (.ref C0) (.type "type") m with
  | some (.val (.ref g)) => decide (g = f)
  | _ => false) && (PySem.W.handedIn (.ref f) && PySem.W.keepIn K (.ref f))))
theorem clsfnB_ok {K : Kf} {C0 f : Addr} {m : Str} (h : clsfnB K C0 f m = true) : ClsFn K C0 f m := by
  obtain ⟨h1, h⟩ := He.ba h
  obtain ⟨h2, h⟩ := He.ba h
  obtain ⟨h3, h⟩ := He.ba h
  obtain ⟨h4, h5⟩ := He.ba h
  refine ⟨He.eqO_ok h1, h2, ?_, h4, h5⟩
  split at h3
  · rename_i g e
    rw [e, of_decide_eq_true h3]
  · cases h3
def veB (K : Kf) : Bool := match PySem.W.findCls K (.type "ValueError") (.type "type") "__init__" with
  | some (.val (.builtin n)) => decide (n = "ValueError.__init__")
  | _ => false
theorem veB_ok {K : Kf} (h : veB K = true) : PySem.W.findCls K (.type "ValueError") (.type "type") "__init__" = some (.val (.builtin "ValueError.__init__")) := by
  unfold veB at h
  split at h
  · rename_i n e
    rw [e, of_decide_eq_true h]
  · cases h
def sysB (K : Kf) : Bool := match K.lookup sysModules with
  | some o => (match o.cls with
    | .type c => !decide (c = "list")
    | _ => false)
  | none => false
theorem sysB_ok {K : Kf} (h : sysB K = true) : SysM K := by
  unfold sysB at h
  cases e : K.lookup sysModules with
  | none => rw [e] at h; cases h
  | some o =>
    rw [e] at h
    refine ⟨o, e, fun z => ?_⟩
    dsimp only at h
    rw [z] at h
    revert h
    decide
/-- the methods' __init__ of a class of errors, seen off the class -/
def ini (K : Kf) (C : Str) : Addr := He.ma K (He.ga K C) "__init__"
def errB (K : Kf) (C : Str) : Bool := oexB K (He.ga K C) && (He.eqO (PySem.W.findIn K (.ref (He.ga K C)) "value") (some none) && (He.eqO (PySem.W.findIn K (.ref (He.ga K C)) "__init__") (some (some (.ref (ini K C)))) && (decide (PySem.W.typeIn K (.ref (ini K C)) = some (.type "function")))))
def caughtB (K : Kf) (C : Str) : Bool := xfB K (He.ga K C) && (He.eqO (PySem.W.findIn K (.ref (He.ga K C)) "value") (some none) && decide (PySem.W.exmOne K (.ref (He.ga K C)) (.ref (He.ga K C)) = some true))
theorem caughtB_ok {K : Kf} {C : Str} (h : caughtB K C = true) : ErrF K (He.ga K C) := by
  obtain ⟨h1, h⟩ := He.ba h
  obtain ⟨h2, h3⟩ := He.ba h
  exact ⟨xfB_ok h1, He.eqO_ok h2, of_decide_eq_true h3⟩
theorem errB_ok {P : Program} {w : World} {K : Kf} {mg : Str → Option Value} {base : Heap} {C : Str} {fd : FuncData} (h : errB K C = true) (gl : mg C = some (.ref (He.ga K C))) (F : FnOk P w K mg base (L2.CX P w) 2 (ini K C) fd ["self", "value"] (spI1 K)) (bd : Binds K fd ["self", "value"] []) : ErrD P w K mg base C (He.ga K C) := by
  obtain ⟨h1, h⟩ := He.ba h
  obtain ⟨h2, h⟩ := He.ba h
  obtain ⟨h3, h4⟩ := He.ba h
  exact ⟨oexB_ok h1, He.eqO_ok h2, gl, ini K C, fd, He.eqO_ok h3, of_decide_eq_true h4, F, bd⟩
/-! ### the Hook: also the modules' table and the statics -/
def asP (g : Addr → Option Obj) (n : Nat) : List Addr := cStatics :: sysModules :: He.asD g n
abbrev AlP : Type := He.AlT × Bool
def obsP (n : Nat) (fa : List He.Fa) (fn : List He.DefD) (ts : List He.Tab) (ex : Kf → Bool) (g : Addr → Option Obj) : AlP := (He.obsT fa fn ts (He.frG g (asP g n)), ex (He.frG g (asP g n)))
structure SaysP (fa : List He.Fa) (fn : List He.DefD) (ts : List He.Tab) (ex : Kf → Bool) (w : World) (K : Kf) : Prop where
  t : He.SaysT fa fn ts w K
  more : ex K = true
def hookP (n : Nat) (fa : List He.Fa) (fn : List He.DefD) (ts : List He.Tab) (ex : Kf → Bool) : PySem.W.Hook where
  α := AlP
  obs := fun s => obsP n fa fn ts ex s.heap.get?
  val := fun w => (He.valT fn ts w, true)
  says := fun w h => ∃ K : Kf, K.In h ∧ SaysP fa fn ts ex w K
  of := fun _ _ e => ⟨_, He.frG_in, ⟨congrArg (fun z : AlP => z.1) e, congrArg (fun z : AlP => z.2) e⟩⟩
  keeps := fun _ _ _ ⟨K, hK, c⟩ k => ⟨K, PySem.W.Frag.In.keeps hK k, c⟩
theorem obsP_eq {n : Nat} {fa : List He.Fa} {fn : List He.DefD} {ts : List He.Tab} {ex : Kf → Bool} {g : Addr → Option Obj} {s : Shared} (h : ∀ a, g a = s.heap.get? a) : obsP n fa fn ts ex g = (hookP n fa fn ts ex).obs s := by
  have e : g = s.heap.get? := funext h
  rw [e] <;> rfl
theorem tab_of {fa : List He.Fa} {fn : List He.DefD} {ts : List He.Tab} {w : World} {K : Kf} (c : He.SaysT fa fn ts w K) (i : Nat) {t : He.Tab} (h : ts[i]? = some t) : He.dicW K (t.1 K) = some (He.keysIn w.params t.2) := by
  have e : ts.map (fun t => He.dicW K (t.1 K)) = ts.map fun t => some (He.keysIn w.params t.2) := congrArg (fun z : He.AlT => z.2) c
  have e2 : (ts.map fun t => He.dicW K (t.1 K))[i]? = (ts.map fun t => some (He.keysIn w.params t.2))[i]? := by rw [e]
  rw [List.getElem?_map, List.getElem?_map, h] at e2
  exact Option.some.inj e2
/-! ### calls by keywords -/
theorem kwB_of {K : Kf} {x qual : Str} {params : Arguments} {body : List Stmt} {scope : Scope} {f : Addr} {fd : FuncData} {ps ks : List Str} {pm : List Nat} (F : FunD K x qual params body scope [] [] f fd)
    (h : ∀ (kV doc pv : Value) (an : Option Addr) (cdv ct : Value) (ws : List Value), ws.length = ks.length → bindArgs (PySem.W.fnOf x qual params body scope .none kV doc pv an cdv ct) ⟨[], ks.zip ws⟩ = pure (ps.zip (permL pm ws .none))) : KwB K fd ps ks pm := by
  obtain ⟨oc, od, dV, kV, doc, pv, an, cdv, ct, osl, rfl, _, _, hD, _⟩ := F.ex
  rcases hD with ⟨_, rfl⟩ | ⟨e, _⟩
  · exact fun s ws _ hl => .of_eq (h kV doc pv an cdv ct ws hl)
  · exact absurd rfl e
/-- a def with one default, both values given -/
theorem bdV {K : Kf} {x qual : Str} {params : Arguments} {body : List Stmt} {scope : Scope} {f : Addr} {fd : FuncData} {ps : List Str} {dv : V} (F : FunD K x qual params body scope [dv] [] f fd)
    (h : ∀ (T : Addr) (kV doc pv : Value) (an : Option Addr) (cdv ct : Value) (us its : List Value), us.length = 2 → its.length = 1 → ∃ k, bindArgs (PySem.W.fnOf x qual params body scope (.ref T) kV doc pv an cdv ct) ⟨us, []⟩ = seqItems? (.ref T) >>= k ∧ k (some its.toArray) = pure (ps.zip (us ++ its.drop 1)))
    (two : ps.length = 2 := by rfl) : Binds K fd ps [] := by
  obtain ⟨ds, v, b⟩ := F.binds1 2 1 (List.cons_ne_nil _ _) (by simp [two]) h
  cases v
  exact b
/-- the script as data -/
def scriptD (ks : List Int) : PyData := .list (ks.map .int)
theorem ints_rp {K : Kf} {F : Hp} : ∀ ks : List Int, RpA K F (ks.map V.int) (ks.map PyData.int)
  | [] => .nil
  | k :: ks => .cons (.int k) (ints_rp ks)
theorem sp_true {C : Cfg} {f : Fn} {H : Hp} {a : Addr} {ks : List Int} {E : XK} (h : ∃ outs, f [.d (scriptD ks)] = .ret (.d (.bool true)) outs) (sq : SqL C.K H a (ks.map V.int)) : spOf C f [.ref a] H (fun v _ => v = .bl true) E := by
  obtain ⟨outs, e⟩ := h
  refine ⟨H, [.d (scriptD ks)], [], Evl.Ex.refl H, .d (.lst sq (ints_rp ks)) .nil, ?_⟩
  rw [e]
  intro v F' H' _ _ _ pv
  have z : Rp C.K F' v (.bool true) := pv
  cases z
  rfl
theorem noCX {P : Program} {w : World} {H : Hp} {t : Shared} {e : Value} {t' : Shared} (c : L2.CX P w [] H t (fun _ _ _ => False) e t') : False := by
  obtain ⟨_, _, _, _, _, _, _, _, _, _, _, _, z⟩ := c
  exact z
/-- the i-th statement of a class -/
def mth (st : Stmt) (i : Nat) : Stmt := match st with
  | .ClassDef _ _ _ b _ _ _ _ _ _ _ => b.getD i (.Pass ⟨0, 0, 0, 0⟩)
  | s => s
end Pi


set_option linter.all false
set_option maxRecDepth 100000
set_option autoImplicit false
/-! Pi27: reckoning what defs do, step by step -/
namespace Pi
open PySem
section
variable {α β : Type} {env e : PEnv} {i : Nat} {x y : D} {xs : List D} {r : Val} {m m2 a b c : PEnv → R Val} {t u : PEnv → R Bool} {s s2 : PEnv → R Flow} {ms : PEnv → R (List Val)} {g : D → D → Option Val}
-- results
theorem z_bind_ok {v : α} {f : α → PEnv → R β} : R.bind (.ok v e) f = f v e := rfl
theorem z_bind_exc {k : Str} {o : Option D} {f : α → PEnv → R β} : R.bind (.exc k o e) f = .exc k o e := rfl
theorem z_bindF_ok {f : Val → PEnv → R β} : R.bindF (.ok r e) f = f r.frz e := rfl
theorem z_bindF_exc {k : Str} {o : Option D} {f : Val → PEnv → R β} : R.bindF (.exc k o e) f = .exc k o e := rfl
theorem z_frz_d : (Val.d x).frz = .d x := rfl
theorem z_frz_n : (Val.new xs).frz = .d (.list xs) := rfl
theorem z_frz_o : (Val.own i).frz = .own i := rfl
theorem z_frz_f {f : Str} : (Val.fn f).frz = .fn f := rfl
theorem z_then_nx : R.thenS (.ok .nx e) s = s e := rfl
theorem z_then_ret : R.thenS (.ok (.ret r) e) s = .ok (.ret r) e := rfl
theorem z_then_brk : R.thenS (.ok .brk e) s = .ok .brk e := rfl
theorem z_then_cont : R.thenS (.ok .cont e) s = .ok .cont e := rfl
theorem z_then_exc {k : Str} {o : Option D} : R.thenS (.exc k o e) s = .exc k o e := rfl
-- statements
theorem z_seq : seqS s s2 env = (s env).thenS s2 := rfl
theorem z_skip : skipS env = .ok .nx env := rfl
def k_expr : Val → PEnv → R Flow := fun _ env => .ok .nx env
theorem z_expr : exprS m env = (m env).bind k_expr := rfl
theorem z_expr_k : k_expr r env = .ok .nx env := rfl
theorem z_asg {o : Bool} : asgS i o m env = (m env).bind (asgV i o) := rfl
def asgO (i : Nat) (o : Bool) (r : Val) (env : PEnv) : Option (Option Slot) → R Flow
  | none => .stuck
  | some (some (.bor _)) => .stuck
  | _ => asgW i o env r
theorem z_asgV {o : Bool} : asgV i o r env = asgO i o r env env[i]? := rfl
theorem z_asgO_none {o : Bool} : asgO i o r env (some none) = asgW i o env r := rfl
theorem z_asgO_val {o : Bool} : asgO i o r env (some (some (.val x))) = asgW i o env r := rfl
theorem z_asgO_lst {o : Bool} : asgO i o r env (some (some (.lst xs))) = asgW i o env r := rfl
theorem z_asgO_fn {o : Bool} {f : Str} : asgO i o r env (some (some (.fn f))) = asgW i o env r := rfl
theorem z_asgW_d {o : Bool} : asgW i o env (.d x) = .ok .nx (env.set i (some (.val x))) := rfl
theorem z_asgW_f {o : Bool} {f : Str} : asgW i o env (.fn f) = .ok .nx (env.set i (some (.fn f))) := rfl
theorem z_asgW_t : asgW i true env (.new xs) = .ok .nx (env.set i (some (.lst xs))) := rfl
theorem z_asgW_n : asgW i false env (.new xs) = .ok .nx (env.set i (some (.val (.list xs)))) := rfl
def k_if (s s2 : PEnv → R Flow) : Bool → PEnv → R Flow := fun c env => if c then s env else s2 env
theorem z_if : ifS t s s2 env = (t env).bind (k_if s s2) := rfl
theorem z_if_t : k_if s s2 true env = s env := rfl
theorem z_if_f : k_if s s2 false env = s2 env := rfl
theorem z_ret : retS m env = (m env).bind retV := rfl
theorem z_retN : retN env = .ok (.ret (.d .none)) env := rfl
theorem z_retV_d : retV (.d x) env = .ok (.ret (.d x)) env := rfl
theorem z_retV_n : retV (.new xs) env = .ok (.ret (.new xs)) env := rfl
def retO (env : PEnv) : Option (Option Slot) → R Flow
  | some (some (.lst xs)) => .ok (.ret (.new xs)) env
  | _ => .stuck
theorem z_retV_o : retV (.own i) env = retO env env[i]? := rfl
theorem z_retO : retO env (some (some (.lst xs))) = .ok (.ret (.new xs)) env := rfl
def k_for (gt : Tg) (s : PEnv → R Flow) : List D → PEnv → R Flow := fun items env => forGo (turnS gt s) items env
theorem z_for {mi : PEnv → R (List D)} {gt : Tg} : forS mi gt s env = (mi env).bind (k_for gt s) := rfl
theorem z_for_k {gt : Tg} : k_for gt s xs env = forGo (turnS gt s) xs env := rfl
theorem z_forGo_nil {b : D → PEnv → R Flow} : forGo b [] env = .ok .nx env := rfl
def forN (b : D → PEnv → R Flow) (xs : List D) : R Flow → R Flow
  | .ok .nx e => forGo b xs e
  | .ok .cont e => forGo b xs e
  | .ok .brk e => .ok .nx e
  | r => r
theorem z_forGo {b : D → PEnv → R Flow} : forGo b (x :: xs) env = forN b xs (b x env) := rfl
theorem z_forN_nx {b : D → PEnv → R Flow} : forN b xs (.ok .nx e) = forGo b xs e := rfl
theorem z_forN_cont {b : D → PEnv → R Flow} : forN b xs (.ok .cont e) = forGo b xs e := rfl
theorem z_forN_brk {b : D → PEnv → R Flow} : forN b xs (.ok .brk e) = .ok .nx e := rfl
theorem z_forN_ret {b : D → PEnv → R Flow} : forN b xs (.ok (.ret r) e) = .ok (.ret r) e := rfl
theorem z_forN_exc {b : D → PEnv → R Flow} {k : Str} {o : Option D} : forN b xs (.exc k o e) = .exc k o e := rfl
def turnO (s : PEnv → R Flow) : Option PEnv → R Flow
  | some e => s e
  | none => .stuck
theorem z_turn {gt : Tg} : turnS gt s x env = turnO s (gt x env) := rfl
theorem z_turnO : turnO s (some e) = s e := rfl
def nameO (i : Nat) (x : D) (env : PEnv) : Option (Option Slot) → Option PEnv
  | none => none
  | some (some (.bor _)) => none
  | _ => some (env.set i (some (.val x)))
theorem z_nameG : nameG i x env = nameO i x env env[i]? := rfl
theorem z_nameO_n : nameO i x env (some none) = some (env.set i (some (.val x))) := rfl
theorem z_nameO_v : nameO i x env (some (some (.val y))) = some (env.set i (some (.val x))) := rfl
theorem z_tupG {gs : List Tg} : tupG gs (.tuple xs) env = goGs gs xs env := rfl
theorem z_goGs_nil : goGs [] [] env = some env := rfl
def goO (gs : List Tg) (xs : List D) : Option PEnv → Option PEnv
  | some e => goGs gs xs e
  | none => none
theorem z_goGs {gt : Tg} {gs : List Tg} : goGs (gt :: gs) (x :: xs) env = goO gs xs (gt x env) := rfl
theorem z_goO {gs : List Tg} : goO gs xs (some e) = goGs gs xs e := rfl
def k_unp (gt : Tg) : Val → PEnv → R Flow := fun r env => match r with
  | .d x => match gt x env with
    | some e => .ok .nx e
    | none => .stuck
  | _ => .stuck
def unpO : Option PEnv → R Flow
  | some e => .ok .nx e
  | none => .stuck
theorem z_unp {gt : Tg} : unpS gt m env = (m env).bindF (k_unp gt) := rfl
theorem z_unp_k {gt : Tg} : k_unp gt (.d x) env = unpO (gt x env) := rfl
theorem z_unpO : unpO (some e) = .ok .nx e := rfl
-- expressions
def slotO (env : PEnv) (i : Nat) : Option (Option Slot) → R Val
  | some (some (.val x)) => .ok (.d x) env
  | some (some (.fn f)) => .ok (.fn f) env
  | some (some _) => .ok (.own i) env
  | _ => .stuck
theorem z_slot : slotE i env = slotO env i env[i]? := rfl
theorem z_slotO_v : slotO env i (some (some (.val x))) = .ok (.d x) env := rfl
theorem z_slotO_f {f : Str} : slotO env i (some (some (.fn f))) = .ok (.fn f) env := rfl
theorem z_slotO_l : slotO env i (some (some (.lst xs))) = .ok (.own i) env := rfl
theorem z_slotO_b : slotO env i (some (some (.bor xs))) = .ok (.own i) env := rfl
def frzO (env : PEnv) (i : Nat) : Option (Option Slot) → R Val
  | some (some (.lst xs)) => .ok (.d (.list xs)) (env.set i (some (.val (.list xs))))
  | some (some (.val x)) => .ok (.d x) env
  | _ => .stuck
theorem z_frz : frzE i env = frzO env i env[i]? := rfl
theorem z_frzO_l : frzO env i (some (some (.lst xs))) = .ok (.d (.list xs)) (env.set i (some (.val (.list xs)))) := rfl
theorem z_frzO_v : frzO env i (some (some (.val x))) = .ok (.d x) env := rfl
theorem z_cst : cstE x env = .ok (.d x) env := rfl
theorem z_fn {f : Str} : fnE f env = .ok (.fn f) env := rfl
theorem z_nil : nilA env = .ok [] env := rfl
def j_cons (r : Val) : List Val → PEnv → R (List Val) := fun rs env => .ok (r :: rs) env
def k_cons2 (ms : PEnv → R (List Val)) : Val → PEnv → R (List Val) := fun r env => (ms env).bind (j_cons r)
theorem z_cons : consA m ms env = (m env).bindF (k_cons2 ms) := rfl
theorem z_cons_k : k_cons2 ms r env = (ms env).bind (j_cons r) := rfl
theorem z_cons_j {rs : List Val} : j_cons r rs env = .ok (r :: rs) env := rfl
theorem z_tup : tupE ms env = (ms env).bind tupV := rfl
theorem z_lst : lstE ms env = (ms env).bind lstV := rfl
def tupO (env : PEnv) : Option (List D) → R Val
  | some ds => if ds.length ≤ big then .ok (.d (.tuple ds)) env else .stuck
  | none => .stuck
def lstO (env : PEnv) : Option (List D) → R Val
  | some ds => if ds.length ≤ big then .ok (.new ds) env else .stuck
  | none => .stuck
theorem z_tupV {rs : List Val} : tupV rs env = tupO env (dsOf rs) := rfl
theorem z_lstV {rs : List Val} : lstV rs env = lstO env (dsOf rs) := rfl
theorem z_tupO : tupO env (some xs) = if xs.length ≤ 1000000 then .ok (.d (.tuple xs)) env else .stuck := rfl
theorem z_lstO : lstO env (some xs) = if xs.length ≤ 1000000 then .ok (.new xs) env else .stuck := rfl
def dsO (x : D) : Option (List D) → Option (List D)
  | some ds => some (x :: ds)
  | none => none
theorem z_ds_nil : dsOf [] = some [] := rfl
theorem z_ds {rs : List Val} : dsOf (.d x :: rs) = dsO x (dsOf rs) := rfl
theorem z_dsO : dsO x (some xs) = some (x :: xs) := rfl
def opR (env : PEnv) : Option Val → R Val
  | some r => .ok r env
  | none => .stuck
theorem z_opR : opR env (some r) = .ok r env := rfl
def opO (g : D → D → Option Val) (env : PEnv) : Option D → Option D → R Val
  | some x, some y => opR env (g x y)
  | _, _ => .stuck
theorem z_opV {ra rb : Val} : opV g ra rb env = opO g env (cont env ra) (cont env rb) := by
  unfold opV opO
  cases cont env ra with
  | none => rfl
  | some x => cases cont env rb with
    | none => rfl
    | some y => cases h : g x y with
      | none => simp only [h, opR]
      | some r => simp only [h, opR]
theorem z_opO : opO g env (some x) (some y) = opR env (g x y) := rfl
def contO : Option (Option Slot) → Option D
  | some (some s) => s.list?.map PyData.list
  | _ => none
theorem z_cont_d : cont env (.d x) = some x := rfl
theorem z_cont_o : cont env (.own i) = contO env[i]? := rfl
theorem z_contO_l : contO (some (some (.lst xs))) = some (.list xs) := rfl
theorem z_contO_b : contO (some (some (.bor xs))) = some (.list xs) := rfl
def j_bin (g : D → D → Option Val) (ra : Val) : Val → PEnv → R Val := fun rb env => opV g ra rb env
def k_bin (g : D → D → Option Val) (b : PEnv → R Val) : Val → PEnv → R Val := fun ra env => (b env).bindF (j_bin g ra)
theorem z_bin : binE g a b env = (a env).bindF (k_bin g b) := rfl
theorem z_bin_k : k_bin g b r env = (b env).bindF (j_bin g r) := rfl
theorem z_bin_j {rb : Val} : j_bin g r rb env = opV g r rb env := rfl
def unO (g : D → Option Val) (env : PEnv) : Option D → R Val
  | some x => opR env (g x)
  | none => .stuck
theorem z_un {g : D → Option Val} : unE g a env = (a env).bindF (unV g) := rfl
theorem z_unV {g : D → Option Val} : unV g r env = unO g env (cont env r) := by
  unfold unV unO
  cases cont env r with
  | none => rfl
  | some x => cases h : g x with
    | none => simp only [h, opR]
    | some r => simp only [h, opR]
theorem z_unO {g : D → Option Val} : unO g env (some x) = opR env (g x) := rfl
def k_bool : Val → PEnv → R Bool := fun r env => match r with
  | .d (.bool b) => .ok b env
  | _ => .stuck
theorem z_bool : boolT m env = (m env).bindF k_bool := rfl
theorem z_bool_k {c : Bool} : k_bool (.d (.bool c)) env = .ok c env := rfl
theorem z_tru : truT m env = (m env).bindF truV := rfl
theorem z_truV_b {c : Bool} : truV (.d (.bool c)) env = .ok c env := rfl
theorem z_truV_i {n : Int} : truV (.d (.int n)) env = .ok (n != 0) env := rfl
def k_not : Bool → PEnv → R Bool := fun b env => .ok (!b) env
theorem z_not : notT t env = (t env).bind k_not := rfl
theorem z_not_k {c : Bool} : k_not c env = .ok (!c) env := rfl
def k_and (u : PEnv → R Bool) : Bool → PEnv → R Bool := fun b env => if b then u env else .ok false env
def k_or (u : PEnv → R Bool) : Bool → PEnv → R Bool := fun b env => if b then .ok true env else u env
theorem z_and : andT t u env = (t env).bind (k_and u) := rfl
theorem z_and_t : k_and u true env = u env := rfl
theorem z_and_f : k_and u false env = .ok false env := rfl
theorem z_or : orT t u env = (t env).bind (k_or u) := rfl
theorem z_or_t : k_or u true env = .ok true env := rfl
theorem z_or_f : k_or u false env = u env := rfl
def k_ite (a b : PEnv → R Val) : Bool → PEnv → R Val := fun c env => if c then a env else b env
theorem z_ite : iteE t a b env = (t env).bind (k_ite a b) := rfl
theorem z_ite_t : k_ite a b true env = a env := rfl
theorem z_ite_f : k_ite a b false env = b env := rfl
def k_andE (b : PEnv → R Val) : Val → PEnv → R Val := fun r env => match r with
  | .d (.bool true) => b env
  | .d (.bool false) => .ok (.d (.bool false)) env
  | _ => .stuck
theorem z_andE : andE a b env = (a env).bindF (k_andE b) := rfl
theorem z_andE_t : k_andE b (.d (.bool true)) env = b env := rfl
theorem z_andE_f : k_andE b (.d (.bool false)) env = .ok (.d (.bool false)) env := rfl
def k_orE (b : PEnv → R Val) : Val → PEnv → R Val := fun r env => match r with
  | .d (.bool true) => .ok (.d (.bool true)) env
  | .d (.bool false) => b env
  | _ => .stuck
theorem z_orE : orE a b env = (a env).bindF (k_orE b) := rfl
theorem z_orE_t : k_orE b (.d (.bool true)) env = .ok (.d (.bool true)) env := rfl
theorem z_orE_f : k_orE b (.d (.bool false)) env = b env := rfl
def k_notE : Val → PEnv → R Val := fun r env => match r with
  | .d (.bool b) => .ok (.d (.bool (!b))) env
  | _ => .stuck
theorem z_notE : notE a env = (a env).bindF k_notE := rfl
theorem z_notE_k {c : Bool} : k_notE (.d (.bool c)) env = .ok (.d (.bool (!c))) env := rfl
def j_chain (g g' : D → D → Option Val) (ra : Val) (c : PEnv → R Val) : Val → PEnv → R Val := fun rb env => (opV g ra rb env).bindF fun r env => match r with
  | .d (.bool true) => (c env).bindF fun rc env => opV g' rb rc env
  | .d (.bool false) => .ok (.d (.bool false)) env
  | _ => .stuck
def k_chain (g g' : D → D → Option Val) (b c : PEnv → R Val) : Val → PEnv → R Val := fun ra env => (b env).bindF (j_chain g g' ra c)
def i_chain (g' : D → D → Option Val) (rb : Val) (c : PEnv → R Val) : Val → PEnv → R Val := fun r env => match r with
  | .d (.bool true) => (c env).bindF (j_bin g' rb)
  | .d (.bool false) => .ok (.d (.bool false)) env
  | _ => .stuck
theorem z_chain {g' : D → D → Option Val} : chainE g g' a b c env = (a env).bindF (k_chain g g' b c) := rfl
theorem z_chain_k {g' : D → D → Option Val} : k_chain g g' b c r env = (b env).bindF (j_chain g g' r c) := rfl
theorem z_chain_j {g' : D → D → Option Val} {rb : Val} : j_chain g g' r c rb env = (opV g r rb env).bindF (i_chain g' rb c) := rfl
theorem z_chain_t {g' : D → D → Option Val} {rb : Val} : i_chain g' rb c (.d (.bool true)) env = (c env).bindF (j_bin g' rb) := rfl
theorem z_chain_f {g' : D → D → Option Val} {rb : Val} : i_chain g' rb c (.d (.bool false)) env = .ok (.d (.bool false)) env := rfl
-- calls
theorem z_blt {h : List D → Option Val} : bltE h ms env = (ms env).bind (bltV h) := rfl
def bltO (h : List D → Option Val) (env : PEnv) : Option (List D) → R Val
  | some ds => opR env (h ds)
  | none => .stuck
theorem z_bltV {h : List D → Option Val} {rs : List Val} : bltV h rs env = bltO h env (conts env rs) := by
  unfold bltV bltO
  cases conts env rs with
  | none => rfl
  | some ds => cases e : h ds with
    | none => simp only [e, opR]
    | some r => simp only [e, opR]
theorem z_bltO {h : List D → Option Val} : bltO h env (some xs) = opR env (h xs) := rfl
def contsO : Option D → Option (List D) → Option (List D)
  | some x, some xs => some (x :: xs)
  | _, _ => none
theorem z_conts_nil : conts env [] = some [] := rfl
theorem z_conts {rs : List Val} : conts env (r :: rs) = contsO (cont env r) (conts env rs) := rfl
theorem z_contsO : contsO (some x) (some xs) = some (x :: xs) := rfl
theorem z_one {h : D → Option Val} : one h [x] = h x := rfl
theorem z_two {h : D → D → Option Val} : two h [x, y] = h x y := rfl
theorem z_call {f : Fn} : callE f ms env = (ms env).bind (callV f) := rfl
def callR (rs : List Val) (env : PEnv) : RF → R Val
  | .stuck => .stuck
  | .ret (.own _) _ => .stuck
  | .ret r outs => .ok r (putOuts env (lentOf rs) outs)
  | .exc c x outs => .exc c x (putOuts env (lentOf rs) outs)
def callO (f : Fn) (rs : List Val) (env : PEnv) : Option (List Arg) → R Val
  | none => .stuck
  | some args => callR rs env (f args)
theorem z_callV {f : Fn} {rs : List Val} : callV f rs env = if (lentOf rs).Nodup then callO f rs env (argsOf env rs) else .stuck := by
  unfold callV
  split
  · cases argsOf env rs with
    | none => rfl
    | some args => show _ = callR rs env (f args); dsimp only; cases f args with
      | stuck => rfl
      | ret r outs => cases r <;> rfl
      | exc c x outs => rfl
  · rfl
theorem z_callO {f : Fn} {rs : List Val} {args : List Arg} : callO f rs env (some args) = callR rs env (f args) := rfl
theorem z_callR_d {rs : List Val} {outs : List (List D)} : callR rs env (.ret (.d x) outs) = .ok (.d x) (putOuts env (lentOf rs) outs) := rfl
theorem z_callR_n {rs : List Val} {outs : List (List D)} : callR rs env (.ret (.new xs) outs) = .ok (.new xs) (putOuts env (lentOf rs) outs) := rfl
theorem z_callR_x {rs : List Val} {outs : List (List D)} {k : Str} {o : Option D} : callR rs env (.exc k o outs) = .exc k o (putOuts env (lentOf rs) outs) := rfl
theorem z_lent_nil : lentOf [] = [] := rfl
theorem z_lent_o {rs : List Val} : lentOf (.own i :: rs) = i :: lentOf rs := rfl
theorem z_lent_d {rs : List Val} : lentOf (.d x :: rs) = lentOf rs := rfl
theorem z_lent_f {rs : List Val} {f : Str} : lentOf (.fn f :: rs) = lentOf rs := rfl
def argsO : Option Arg → Option (List Arg) → Option (List Arg)
  | some a, some as => some (a :: as)
  | _, _ => none
theorem z_args_nil : argsOf env [] = some [] := rfl
theorem z_args {rs : List Val} : argsOf env (r :: rs) = argsO (argOf env r) (argsOf env rs) := rfl
theorem z_argsO {p : Arg} {ps : List Arg} : argsO (some p) (some ps) = some (p :: ps) := rfl
theorem z_arg_d : argOf env (.d x) = some (.d x) := rfl
theorem z_arg_f {f : Str} : argOf env (.fn f) = some (.fn f) := rfl
def argO : Option (Option Slot) → Option Arg
  | some (some s) => s.list?.map Arg.bor
  | _ => none
theorem z_arg_o : argOf env (.own i) = argO env[i]? := rfl
theorem z_argO_l : argO (some (some (.lst xs))) = some (.bor xs) := rfl
theorem z_argO_b : argO (some (some (.bor xs))) = some (.bor xs) := rfl
theorem z_put_nil {os : List (List D)} : putOuts env [] os = env := rfl
theorem z_put {is : List Nat} {os : List (List D)} : putOuts env (i :: is) (xs :: os) = setMu (putOuts env is os) i xs := rfl
def muO (env : PEnv) (i : Nat) (xs : List D) : Option (Option Slot) → PEnv
  | some (some s) => env.set i (some (s.put xs))
  | _ => env
theorem z_setMu : setMu env i xs = muO env i xs env[i]? := rfl
theorem z_muO_l {ys : List D} : muO env i xs (some (some (.lst ys))) = env.set i (some (.lst xs)) := rfl
theorem z_muO_b {ys : List D} : muO env i xs (some (some (.bor ys))) = env.set i (some (.bor xs)) := rfl
-- a def's run
def endF (args : List Arg) : R Flow → RF
  | .stuck => .stuck
  | .ok .nx env => (match borsOf env args with
    | some os => .ret (.d .none) os
    | none => .stuck)
  | .ok (.ret r) env => (match borsOf env args with
    | some os => .ret r os
    | none => .stuck)
  | .ok _ _ => .stuck
  | .exc c x env => (match borsOf env args with
    | some os => .exc c x os
    | none => .stuck)
theorem z_run {np n : Nat} {args : List Arg} : runF np n s args = if args.length = np then endF args (s (slotsOf args ++ List.replicate (n - args.length) none)) else .stuck := by
  unfold runF
  split
  · cases s (slotsOf args ++ List.replicate (n - args.length) none) with
    | stuck => rfl
    | ok f e => cases f <;> rfl
    | exc c x e => rfl
  · rfl
def outO (r : Val) : Option (List (List D)) → RF
  | some os => .ret r os
  | none => .stuck
def outX (c : Str) (x : Option D) : Option (List (List D)) → RF
  | some os => .exc c x os
  | none => .stuck
theorem z_end_nx {args : List Arg} : endF args (.ok .nx e) = outO (.d .none) (borsOf e args) := rfl
theorem z_end_ret {args : List Arg} : endF args (.ok (.ret r) e) = outO r (borsOf e args) := rfl
theorem z_end_exc {args : List Arg} {k : Str} {o : Option D} : endF args (.exc k o e) = outX k o (borsOf e args) := rfl
theorem z_outO {os : List (List D)} : outO r (some os) = .ret r os := rfl
theorem z_outX {os : List (List D)} {k : Str} {o : Option D} : outX k o (some os) = .exc k o os := rfl
theorem z_bors_nil : borsOf env [] = some [] := by cases env <;> rfl
theorem z_bors_d {o : Option Slot} {as : List Arg} : borsOf (o :: env) (.d x :: as) = borsOf env as := by
  cases o with
  | none => rfl
  | some s => cases s <;> rfl
theorem z_bors_f {o : Option Slot} {as : List Arg} {f : Str} : borsOf (o :: env) (.fn f :: as) = borsOf env as := by
  cases o with
  | none => rfl
  | some s => cases s <;> rfl
def borO (xs : List D) : Option (List (List D)) → Option (List (List D))
  | some os => some (xs :: os)
  | none => none
theorem z_bors_b {as : List Arg} {ys : List D} : borsOf (some (.bor xs) :: env) (.bor ys :: as) = borO xs (borsOf env as) := rfl
theorem z_borO {os : List (List D)} : borO xs (some os) = some (xs :: os) := rfl
theorem z_slots_nil : slotsOf [] = [] := rfl
theorem z_slots_d {as : List Arg} : slotsOf (.d x :: as) = some (.val x) :: slotsOf as := rfl
theorem z_slots_f {as : List Arg} {f : Str} : slotsOf (.fn f :: as) = some (.fn f) :: slotsOf as := rfl
theorem z_slots_b {as : List Arg} : slotsOf (.bor xs :: as) = some (.bor xs) :: slotsOf as := rfl
-- lists that change
theorem z_mu_b : muAt (some (Slot.bor xs) :: env) 0 = true := rfl
def k_pop (i : Nat) : List Val → PEnv → R Val := popAtV i
theorem z_app : appE i ms env = if muAt env i = true then (ms env).bind (appV i) else .stuck := rfl
theorem z_popAt : popAtE i ms env = if muAt env i = true then (ms env).bind (popAtV i) else .stuck := rfl
def muB : Option (Option Slot) → Bool
  | some (some s) => s.list?.isSome
  | _ => false
theorem z_muAt : muAt env i = muB env[i]? := rfl
theorem z_muB_l : muB (some (some (.lst xs))) = true := rfl
theorem z_muB_b : muB (some (some (.bor xs))) = true := rfl
def chgO (env : PEnv) (i : Nat) (f : List D → Option (Val × List D)) : Option (Option Slot) → R Val
  | some (some s) => match s.list? with
    | some xs => match f xs with
      | some (r, ys) => .ok r (setMu env i ys)
      | none => .stuck
    | none => .stuck
  | _ => .stuck
def chgR (env : PEnv) (i : Nat) : Option (Val × List D) → R Val
  | some (r, ys) => .ok r (setMu env i ys)
  | none => .stuck
theorem z_chg {f : List D → Option (Val × List D)} : chgV i f env = chgO env i f env[i]? := rfl
theorem z_chgO_l {f : List D → Option (Val × List D)} : chgO env i f (some (some (.lst xs))) = chgR env i (f xs) := rfl
theorem z_chgO_b {f : List D → Option (Val × List D)} : chgO env i f (some (some (.bor xs))) = chgR env i (f xs) := rfl
theorem z_chgR {ys : List D} : chgR env i (some (r, ys)) = .ok r (setMu env i ys) := rfl
theorem z_appV : appV i [.d y] env = chgV i (fun xs => if xs.length < big then some (.d .none, xs ++ [y]) else none) env := rfl
theorem z_popAtV {k : Int} : popAtV i [.d (.int k)] env = popAtD i env (.int k) := rfl
def j_set (i : Nat) (rv : Val) : Val → PEnv → R Flow := fun rk env => match rv, rk with
  | .d y, .d (.int k) => setV i k y env
  | _, _ => .stuck
def k_set (i : Nat) (mk : PEnv → R Val) : Val → PEnv → R Flow := fun rv env => if muAt env i = true then (mk env).bindF (j_set i rv) else .stuck
theorem z_set : setS i a b env = (b env).bindF (k_set i a) := rfl
theorem z_set_k : k_set i a r env = if muAt env i = true then (a env).bindF (j_set i r) else .stuck := rfl
theorem z_set_j {k : Int} : j_set i (.d y) (.d (.int k)) env = setV i k y env := rfl
-- what a for walks
def k_seq : Val → PEnv → R (List D) := fun r env => match r with
  | .d (.list xs) => .ok xs env
  | .d (.tuple xs) => .ok xs env
  | _ => .stuck
theorem z_seqI : seqI m env = (m env).bindF k_seq := rfl
theorem z_seq_l : k_seq (.d (.list xs)) env = .ok xs env := rfl
theorem z_seq_t : k_seq (.d (.tuple xs)) env = .ok xs env := rfl
def k_enum : Val → PEnv → R (List D) := fun r env => match r with
  | .d (.list xs) => .ok (enumD 0 xs) env
  | _ => .stuck
theorem z_enum : enumI m env = (m env).bindF k_enum := rfl
theorem z_enum_l : k_enum (.d (.list xs)) env = .ok (enumD 0 xs) env := rfl
def k_range : Val → PEnv → R (List D) := fun r env => match r with
  | .d (.int j) => if -(2 ^ 62) ≤ j ∧ j < 2 ^ 62 then .ok (intsD 0 j.toNat) env else .stuck
  | _ => .stuck
theorem z_range : range1I m env = (m env).bindF k_range := rfl
theorem z_range_k {n : Int} : k_range (.d (.int n)) env = if -(2 ^ 62) ≤ n ∧ n < 2 ^ 62 then .ok (intsD 0 n.toNat) env else .stuck := rfl
-- operators at numbers
theorem z_addI {n k : Int} : addD (.int n) (.int k) = some (.d (.int (n + k))) := rfl
theorem z_subI {n k : Int} : subD (.int n) (.int k) = some (.d (.int (n - k))) := rfl
theorem z_ltI {n k : Int} : ltD (.int n) (.int k) = some (.d (.bool (decide (n < k)))) := rfl
theorem z_leI {n k : Int} : leD (.int n) (.int k) = some (.d (.bool (decide (n ≤ k)))) := rfl
theorem z_gtI {n k : Int} : gtD (.int n) (.int k) = some (.d (.bool (decide (k < n)))) := rfl
theorem z_geI {n k : Int} : geD (.int n) (.int k) = some (.d (.bool (decide (k ≤ n)))) := rfl
theorem z_mulI {n k : Int} : mulD (.int n) (.int k) = if (-(2 ^ 64) < n ∧ n < 2 ^ 64) ∨ (-(2 ^ 64) < k ∧ k < 2 ^ 64) then some (.d (.int (n * k))) else none := rfl
theorem z_modI {n k : Int} : modD (.int n) (.int k) = if 0 < k then some (.d (.int (n % k))) else none := rfl
theorem z_divI {n k : Int} : fdivD (.int n) (.int k) = if 0 < k ∧ k.natAbs.log2 < 9000 then some (.d (.int (n / k))) else none := rfl
theorem z_intI {n : Int} : intD [.int n] = some (.d (.int n)) := rfl
theorem z_intB {c : Bool} : intD [.bool c] = some (.d (.int (if c then 1 else 0))) := rfl
theorem z_lenL : lenD [.list xs] = some (.d (.int xs.length)) := rfl
theorem z_lenT : lenD [.tuple xs] = some (.d (.int xs.length)) := rfl
theorem z_listL : listD [.list xs] = some (.new xs) := rfl
end
end Pi


set_option linter.all false
set_option maxRecDepth 100000
set_option autoImplicit false
/-! Pi28: indices; the word that reckons -/
namespace Pi
open PySem
def ixO : Option D → Option Val
  | some d => some (.d d)
  | none => none
section
variable {xs : List D} {n : Int} {x x1 x2 x3 x4 x5 x6 d : D} {env : PEnv} {i : Nat} {v y : D}
theorem z_ixL : ixD2 (.list xs) (.int n) = ixO (L2.atI xs n) := by
  show (match L2.atI xs n with
    | some d => some (Val.d d)
    | none => none) = _
  cases L2.atI xs n <;> rfl
theorem z_ixT : ixD2 (.tuple xs) (.int n) = ixO (L2.atI xs n) := by
  show (match L2.atI xs n with
    | some d => some (Val.d d)
    | none => none) = _
  cases L2.atI xs n <;> rfl
theorem z_ixO : ixO (some d) = some (.d d) := rfl
theorem at_ok (h0 : 0 ≤ n) (e : xs[n.toNat]? = some d) : L2.atI xs n = some d := by
  have hl : n.toNat < xs.length := (List.getElem?_eq_some_iff.mp e).1
  unfold L2.atI L2.ixN
  rw [if_pos h0, if_pos (by omega)]
  exact e
theorem z_at0 : L2.atI (x :: xs) 0 = some x := at_ok (by decide) rfl
theorem z_at1 : L2.atI (x :: x1 :: xs) 1 = some x1 := at_ok (by decide) rfl
theorem z_at2 : L2.atI (x :: x1 :: x2 :: xs) 2 = some x2 := at_ok (by decide) rfl
theorem z_at3 : L2.atI (x :: x1 :: x2 :: x3 :: xs) 3 = some x3 := at_ok (by decide) rfl
theorem z_at4 : L2.atI (x :: x1 :: x2 :: x3 :: x4 :: xs) 4 = some x4 := at_ok (by decide) rfl
theorem z_at6 : L2.atI (x :: x1 :: x2 :: x3 :: x4 :: x5 :: x6 :: xs) 6 = some x6 := at_ok (by decide) rfl
def setR : R Val → R Flow
  | .ok _ env => .ok .nx env
  | _ => .stuck
def setN (j : Option Nat) (xs : List D) (y : D) : Option (Val × List D) := match j with
  | some j => some (.d .none, xs.set j y)
  | none => none
theorem z_setV : setV i n y env = setR (chgV i (fun xs => setN (L2.ixN xs.length n) xs y) env) := rfl
theorem z_setR : setR (.ok (.d v) env) = .ok .nx env := rfl
theorem z_setN {j : Nat} : setN (some j) xs y = some (.d .none, xs.set j y) := rfl
theorem z_ixN0 {m : Nat} : L2.ixN (m + 1) 0 = some 0 := by unfold L2.ixN; rw [if_pos (by decide), if_pos (by omega)]; rfl
theorem z_ixN1 {m : Nat} : L2.ixN (m + 1 + 1) 1 = some 1 := by unfold L2.ixN; rw [if_pos (by decide), if_pos (by omega)]; rfl
theorem z_ixN2 {m : Nat} : L2.ixN (m + 1 + 1 + 1) 2 = some 2 := by unfold L2.ixN; rw [if_pos (by decide), if_pos (by omega)]; rfl
end
theorem z_nodup1 {i : Nat} : List.Nodup [i] = True := by simp
theorem z_nodup0 : List.Nodup ([] : List Nat) = True := by simp
theorem z_nodup2 : List.Nodup [0, 1] = True := by simp


end Pi

local macro_rules | `(tactic| simp_arith [$args,*]) => `(tactic| simp -implicitDefEqProofs only [Pi.z_bind_ok, Pi.z_bind_exc, Pi.z_bindF_ok, Pi.z_bindF_exc, Pi.z_frz_d, Pi.z_frz_n, Pi.z_frz_o, Pi.z_frz_f, Pi.z_then_nx, Pi.z_then_ret, Pi.z_then_brk, Pi.z_then_cont, Pi.z_then_exc, Pi.z_seq, Pi.z_skip, Pi.z_expr, Pi.z_expr_k, Pi.z_asg, Pi.z_asgV, Pi.z_asgO_none, Pi.z_asgO_val, Pi.z_asgO_lst, Pi.z_asgO_fn, Pi.z_asgW_d, Pi.z_asgW_f, Pi.z_asgW_t, Pi.z_asgW_n, Pi.z_if, Pi.z_if_t, Pi.z_if_f, Pi.z_ret, Pi.z_retN, Pi.z_retV_d, Pi.z_retV_n, Pi.z_retV_o, Pi.z_retO, Pi.z_for, Pi.z_for_k, Pi.z_forGo_nil, Pi.z_forGo, Pi.z_forN_nx, Pi.z_forN_cont, Pi.z_forN_brk, Pi.z_forN_ret, Pi.z_forN_exc, Pi.z_turn, Pi.z_turnO, Pi.z_nameG, Pi.z_nameO_n, Pi.z_nameO_v, Pi.z_tupG, Pi.z_goGs_nil, Pi.z_goGs, Pi.z_goO, Pi.z_unp, Pi.z_unp_k, Pi.z_unpO, Pi.z_slot, Pi.z_slotO_v, Pi.z_slotO_f, Pi.z_slotO_l, Pi.z_slotO_b, Pi.z_frz, Pi.z_frzO_l, Pi.z_frzO_v, Pi.z_cst, Pi.z_fn, Pi.z_nil, Pi.z_cons, Pi.z_cons_k, Pi.z_cons_j, Pi.z_tup, Pi.z_lst, Pi.z_tupV, Pi.z_lstV, Pi.z_tupO, Pi.z_lstO, Pi.z_ds_nil, Pi.z_ds, Pi.z_dsO, Pi.z_opR, Pi.z_opV, Pi.z_opO, Pi.z_cont_d, Pi.z_cont_o, Pi.z_contO_l, Pi.z_contO_b, Pi.z_bin, Pi.z_bin_k, Pi.z_bin_j, Pi.z_un, Pi.z_unV, Pi.z_unO, Pi.z_bool, Pi.z_bool_k, Pi.z_tru, Pi.z_truV_b, Pi.z_truV_i, Pi.z_not, Pi.z_not_k, Pi.z_and, Pi.z_and_t, Pi.z_and_f, Pi.z_or, Pi.z_or_t, Pi.z_or_f, Pi.z_ite, Pi.z_ite_t, Pi.z_ite_f, Pi.z_andE, Pi.z_andE_t, Pi.z_andE_f, Pi.z_orE, Pi.z_orE_t, Pi.z_orE_f, Pi.z_notE, Pi.z_notE_k, Pi.z_chain, Pi.z_chain_k, Pi.z_chain_j, Pi.z_chain_t, Pi.z_chain_f, Pi.z_blt, Pi.z_bltV, Pi.z_bltO, Pi.z_conts_nil, Pi.z_conts, Pi.z_contsO, Pi.z_one, Pi.z_two, Pi.z_call, Pi.z_callV, Pi.z_callO, Pi.z_callR_d, Pi.z_callR_n, Pi.z_callR_x, Pi.z_lent_nil, Pi.z_lent_o, Pi.z_lent_d, Pi.z_lent_f, Pi.z_args_nil, Pi.z_args, Pi.z_argsO, Pi.z_arg_d, Pi.z_arg_f, Pi.z_arg_o, Pi.z_argO_l, Pi.z_argO_b, Pi.z_put_nil, Pi.z_put, Pi.z_setMu, Pi.z_muO_l, Pi.z_muO_b, Pi.z_run, Pi.z_end_nx, Pi.z_end_ret, Pi.z_end_exc, Pi.z_outO, Pi.z_outX, Pi.z_bors_nil, Pi.z_bors_d, Pi.z_bors_f, Pi.z_bors_b, Pi.z_borO, Pi.z_slots_nil, Pi.z_slots_d, Pi.z_slots_f, Pi.z_slots_b, Pi.z_app, Pi.z_popAt, Pi.z_muAt, Pi.z_muB_l, Pi.z_muB_b, Pi.z_chg, Pi.z_chgO_l, Pi.z_chgO_b, Pi.z_chgR, Pi.z_appV, Pi.z_popAtV, Pi.z_set, Pi.z_set_k, Pi.z_set_j, Pi.z_seqI, Pi.z_seq_l, Pi.z_seq_t, Pi.z_enum, Pi.z_enum_l, Pi.z_range, Pi.z_range_k, Pi.z_addI, Pi.z_subI, Pi.z_ltI, Pi.z_leI, Pi.z_gtI, Pi.z_geI, Pi.z_mulI, Pi.z_modI, Pi.z_divI, Pi.z_intI, Pi.z_intB, Pi.z_lenL, Pi.z_lenT, Pi.z_listL, Pi.z_ixL, Pi.z_ixT, Pi.z_ixO, Pi.z_at0, Pi.z_at1, Pi.z_at2, Pi.z_at3, Pi.z_at4, Pi.z_at6, Pi.z_setV, Pi.z_setR, Pi.z_setN, Pi.z_ixN0, Pi.z_ixN1, Pi.z_ixN2,
  List.getElem?_cons_zero, List.getElem?_cons_succ, List.set_cons_zero, List.set_cons_succ, List.replicate_succ, List.replicate_zero, List.cons_append, List.nil_append, List.length_cons, List.length_nil, Pi.z_nodup0, Pi.z_nodup1, Pi.z_nodup2, Nat.zero_add, Nat.reduceAdd, Nat.reduceSub, Nat.reduceLeDiff, Nat.reduceEqDiff, Nat.reduceLT, Int.reduceLT, Int.reduceNeg, Int.reducePow, Int.reduceLE, Int.reduceAdd, Int.reduceMul, Int.reduceSub, Int.reduceMod, Int.reduceDiv, and_self, true_and, and_true, or_true, true_or, if_true, if_false, ↓reduceIte, decide_true, decide_false, Bool.not_true, Bool.not_false, $args,*])
set_option linter.all false
set_option maxRecDepth 100000
set_option autoImplicit false
/-! Pi29: comprehensions, slices, tables, reckoned -/
namespace Pi
open PySem PySem.Spec PyProof.Rows L2
section
variable {env e e2 : PEnv} {i j : Nat} {js : List Nat} {x y : D} {xs ys acc : List D} {r : Val} {m m2 a : PEnv → R Val} {t : PEnv → R Bool} {gt : Tg} {mi : PEnv → R (List D)} {ms : PEnv → R (List Val)} {tb : Str → Option Fn} {f : Str} {fn : Fn}
def k_lc (js : List Nat) (gt : Tg) (t : PEnv → R Bool) (a : PEnv → R Val) : List D → PEnv → R Val := fun items env => if js.all (plainAt env) = true then lcFin js env (lcGo js gt t a items (wipeE env js) []) else .stuck
theorem z_lc : lcE js mi gt t a env = (mi env).bind (k_lc js gt t a) := rfl
theorem z_lc_k : k_lc js gt t a xs env = if js.all (plainAt env) = true then lcFin js env (lcGo js gt t a xs (wipeE env js) []) else .stuck := rfl
theorem z_lcFin : lcFin js env (.ok acc e) = .ok (.new acc) (restE env e js) := rfl
theorem z_lcGo_nil : lcGo js gt t a [] env acc = .ok acc env := rfl
def lcN (js : List Nat) (gt : Tg) (t : PEnv → R Bool) (a : PEnv → R Val) (xs acc : List D) : R Val → R (List D)
  | .ok r env3 => match r.frz with
    | .d y => if acc.length < big then lcGo js gt t a xs (wipeE env3 js) (acc ++ [y]) else .stuck
    | _ => .stuck
  | _ => .stuck
def lcT (js : List Nat) (gt : Tg) (t : PEnv → R Bool) (a : PEnv → R Val) (xs acc : List D) : R Bool → R (List D)
  | .ok true env2 => lcN js gt t a xs acc (a env2)
  | .ok false env2 => lcGo js gt t a xs (wipeE env2 js) acc
  | _ => .stuck
def lcG (js : List Nat) (gt : Tg) (t : PEnv → R Bool) (a : PEnv → R Val) (xs acc : List D) : Option PEnv → R (List D)
  | none => .stuck
  | some env1 => lcT js gt t a xs acc (t env1)
theorem z_lcGo : lcGo js gt t a (x :: xs) env acc = lcG js gt t a xs acc (gt x env) := by
  show (match gt x env with
    | none => _
    | some env1 => _) = _
  cases gt x env with
  | none => rfl
  | some env1 =>
    show (match t env1 with
      | .ok true env2 => _
      | .ok false env2 => _
      | _ => _) = lcT js gt t a xs acc (t env1)
    cases t env1 with
    | stuck => rfl
    | exc c x e => rfl
    | ok b e => cases b with
      | false => rfl
      | true =>
        show (match a e with
          | .ok r env3 => _
          | _ => _) = lcN js gt t a xs acc (a e)
        cases a e with
        | stuck => rfl
        | exc c x e => rfl
        | ok r e3 => cases r <;> rfl
theorem z_lcG : lcG js gt t a xs acc (some e) = lcT js gt t a xs acc (t e) := rfl
theorem z_lcT_t : lcT js gt t a xs acc (.ok true e) = lcN js gt t a xs acc (a e) := rfl
theorem z_lcT_f : lcT js gt t a xs acc (.ok false e) = lcGo js gt t a xs (wipeE e js) acc := rfl
theorem z_lcN_d : lcN js gt t a xs acc (.ok (.d y) e) = if acc.length < 1000000 then lcGo js gt t a xs (wipeE e js) (acc ++ [y]) else .stuck := rfl
theorem z_lcN_n : lcN js gt t a xs acc (.ok (.new ys) e) = if acc.length < 1000000 then lcGo js gt t a xs (wipeE e js) (acc ++ [.list ys]) else .stuck := rfl
theorem z_yes : yesT env = .ok true env := rfl
def plainO : Option (Option Slot) → Bool
  | some (some s) => s.mut?.isNone
  | some none => true
  | none => false
theorem z_plain : plainAt env j = plainO env[j]? := rfl
theorem z_plain_n : plainO (some none) = true := rfl
theorem z_plain_v : plainO (some (some (.val x))) = true := rfl
theorem z_plain_f : plainO (some (some (.fn f))) = true := rfl
theorem z_wipe_nil : wipeE env [] = env := rfl
theorem z_wipe : wipeE env (j :: js) = (wipeE env js).set j none := rfl
theorem z_rest_nil : restE e e2 [] = e2 := rfl
def restO : Option (Option Slot) → Option Slot
  | some s => s
  | none => none
theorem z_rest : restE e e2 (j :: js) = (restE e e2 js).set j (restO e[j]?) := rfl
theorem z_restO {s : Option Slot} : restO (some s) = s := rfl
theorem z_all_nil {p : Nat → Bool} : List.all [] p = true := rfl
theorem z_all {p : Nat → Bool} : List.all (j :: js) p = (p j && List.all js p) := rfl
def j_zip (r : Val) : Val → PEnv → R (List D) := fun r2 env => match r, r2 with
  | .d (.list xs), .d (.list ys) => .ok (zipD xs ys) env
  | .d (.tuple xs), .d (.tuple ys) => .ok (zipD xs ys) env
  | _, _ => .stuck
def k_zip (m2 : PEnv → R Val) : Val → PEnv → R (List D) := fun r env => (m2 env).bindF (j_zip r)
theorem z_zip : zipI m m2 env = (m env).bindF (k_zip m2) := rfl
theorem z_zip_k : k_zip m2 r env = (m2 env).bindF (j_zip r) := rfl
theorem z_zip_t : j_zip (.d (.tuple xs)) (.d (.tuple ys)) env = .ok (zipD xs ys) env := rfl
theorem z_zip_l : j_zip (.d (.list xs)) (.d (.list ys)) env = .ok (zipD xs ys) env := rfl
theorem z_zipD : zipD (x :: xs) (y :: ys) = .tuple [x, y] :: zipD xs ys := rfl
theorem z_zipD_n : zipD [] ys = [] := rfl
theorem z_zipD_n2 : zipD xs [] = [] := by cases xs <;> rfl
def slR (ra : Val) (l u : Option Int) (env : PEnv) : Option D → R Val
  | some x => opR env (slD x l u)
  | none => .stuck
def slU (ra : Val) (l : Option Int) (env : PEnv) : Option (PEnv → R Val) → R Val
  | none => slR ra l none env (cont env ra)
  | some m => (m env).bindF fun r env => match r with
    | .d (.int k) => slR ra l (some k) env (cont env ra)
    | _ => .stuck
def slL (ra : Val) (hi : Option (PEnv → R Val)) (env : PEnv) : Option (PEnv → R Val) → R Val
  | none => slU ra none env hi
  | some m => (m env).bindF fun r env => match r with
    | .d (.int k) => slU ra (some k) env hi
    | _ => .stuck
def k_sl (lo hi : Option (PEnv → R Val)) : Val → PEnv → R Val := fun ra env => slL ra hi env lo
theorem slR_eq (ra : Val) (l u : Option Int) (env : PEnv) : (match cont env ra with
    | some x => match slD x l u with
      | some r => R.ok r env
      | none => .stuck
    | none => .stuck) = slR ra l u env (cont env ra) := by
  cases cont env ra with
  | none => rfl
  | some x => show (match slD x l u with
      | some r => R.ok r env
      | none => .stuck) = opR env (slD x l u); cases slD x l u <;> rfl
theorem z_sl {lo hi : Option (PEnv → R Val)} : slE a lo hi env = (a env).bindF (k_sl lo hi) := by
  unfold slE k_sl
  congr 1
def k_slU (ra : Val) (l : Option Int) : Val → PEnv → R Val := fun r env => match r with
  | .d (.int k) => slR ra l (some k) env (cont env ra)
  | _ => .stuck
def k_slL (ra : Val) (hi : Option (PEnv → R Val)) : Val → PEnv → R Val := fun r env => match r with
  | .d (.int k) => slU ra (some k) env hi
  | _ => .stuck
theorem z_sl_k {lo hi : Option (PEnv → R Val)} : k_sl lo hi r env = slL r hi env lo := rfl
theorem z_slL_n {hi : Option (PEnv → R Val)} : slL r hi env none = slU r none env hi := rfl
theorem z_slL_s {hi : Option (PEnv → R Val)} : slL r hi env (some m) = (m env).bindF (k_slL r hi) := rfl
theorem z_slL_k {hi : Option (PEnv → R Val)} {k : Int} : k_slL r hi (.d (.int k)) env = slU r (some k) env hi := rfl
theorem z_slU_n {l : Option Int} : slU r l env none = slR r l none env (cont env r) := rfl
theorem z_slU_s {l : Option Int} : slU r l env (some m) = (m env).bindF (k_slU r l) := rfl
theorem z_slU_k {l : Option Int} {k : Int} : k_slU r l (.d (.int k)) env = slR r l (some k) env (cont env r) := rfl
theorem z_slR {l u : Option Int} : slR r l u env (some x) = opR env (slD x l u) := rfl
theorem z_slD_l {l u : Option Int} : slD (.list xs) l u = some (.new (cutD xs l u)) := rfl
theorem z_slD_t {l u : Option Int} : slD (.tuple xs) l u = some (.d (.tuple (cutD xs l u))) := rfl
theorem cut_from1 : cutD (x :: xs) (some 1) none = xs := by
  have e1 : HT.sIx (x :: xs).length 0 (some 1) = 1 := (HT.sIx_nat _ _ 1).trans (by simp)
  have e2 : HT.sIx (x :: xs).length (x :: xs).length none = xs.length + 1 := rfl
  unfold cutD
  rw [e1, e2]
  simp
def callT (ms : PEnv → R (List Val)) (env : PEnv) : Option Fn → R Val
  | some fn => (ms env).bind (callV fn)
  | none => .stuck
def callLO (tb : Str → Option Fn) (ms : PEnv → R (List Val)) (env : PEnv) : Option (Option Slot) → R Val
  | some (some (.fn f)) => callT ms env (tb f)
  | _ => .stuck
theorem z_callL : callLE i tb ms env = callLO tb ms env env[i]? := by
  unfold callLE callLO
  cases env[i]? with
  | none => rfl
  | some o => cases o with
    | none => rfl
    | some s => cases s with
      | fn f => show (match tb f with
          | some fn => _
          | none => _) = callT ms env (tb f); cases tb f <;> rfl
      | _ => rfl
theorem z_callLO : callLO tb ms env (some (some (.fn f))) = callT ms env (tb f) := rfl
theorem z_callT : callT ms env (some fn) = (ms env).bind (callV fn) := rfl
end
end Pi


set_option linter.all false
set_option maxRecDepth 100000
set_option autoImplicit false
namespace Pi
open PySem
theorem z_isnotN {x : D} : isnotD x .none = some (.d (.bool (match x with | .none => false | _ => true))) := rfl
theorem z_isnotT {xs : List D} : isnotD (.tuple xs) .none = some (.d (.bool true)) := rfl
theorem z_neI {n k : Int} : neD (.int n) (.int k) = some (.d (.bool (!(n == k)))) := rfl
theorem z_eqI {n k : Int} : eqD (.int n) (.int k) = some (.d (.bool (n == k))) := rfl
theorem z_allD {xs : List D} : allD [.list xs] = (match boolsOf xs with | some is => some (.d (.bool (is.all id))) | none => none) := rfl


end Pi

local macro_rules | `(tactic| simp_arith! [$args,*]) => `(tactic| simp_arith [Pi.z_lc, Pi.z_lc_k, Pi.z_lcFin, Pi.z_lcGo_nil, Pi.z_lcGo, Pi.z_lcG, Pi.z_lcT_t, Pi.z_lcT_f, Pi.z_lcN_d, Pi.z_lcN_n, Pi.z_yes, Pi.z_plain, Pi.z_plain_n, Pi.z_plain_v, Pi.z_plain_f, Pi.z_wipe_nil, Pi.z_wipe, Pi.z_rest_nil, Pi.z_rest, Pi.z_restO, Pi.z_all_nil, Pi.z_all, Pi.z_zip, Pi.z_zip_k, Pi.z_zip_t, Pi.z_zip_l, Pi.z_zipD, Pi.z_zipD_n, Pi.z_zipD_n2, Pi.z_sl, Pi.z_sl_k, Pi.z_slL_n, Pi.z_slL_s, Pi.z_slL_k, Pi.z_slU_n, Pi.z_slU_s, Pi.z_slU_k, Pi.z_slR, Pi.z_slD_l, Pi.z_slD_t, Pi.cut_from1, Pi.z_callL, Pi.z_callLO, Pi.z_callT, Pi.z_isnotT, Int.cast_ofNat_Int, Int.natCast_one, Int.cast_ofNat_Int, beq_self_eq_true, Bool.and_self, Bool.and_true, Bool.true_and, $args,*])
local macro_rules | `(tactic| simp_all_arith [$args,*]) => `(tactic| simp_arith [Pi.z_lc_k, Pi.z_lcFin, Pi.z_lcGo_nil, Pi.z_lcGo, Pi.z_lcG, Pi.z_lcT_t, Pi.z_lcT_f, Pi.z_lcN_d, Pi.z_lcN_n, Pi.z_yes, Pi.z_plain, Pi.z_plain_n, Pi.z_plain_v, Pi.z_plain_f, Pi.z_wipe_nil, Pi.z_wipe, Pi.z_rest_nil, Pi.z_rest, Pi.z_restO, Pi.z_all_nil, Pi.z_all, Pi.z_zip, Pi.z_zip_k, Pi.z_zip_t, Pi.z_zip_l, Pi.z_zipD, Pi.z_zipD_n, Pi.z_zipD_n2, Pi.z_sl, Pi.z_sl_k, Pi.z_slL_n, Pi.z_slL_s, Pi.z_slL_k, Pi.z_slU_n, Pi.z_slU_s, Pi.z_slU_k, Pi.z_slR, Pi.z_slD_l, Pi.z_slD_t, Pi.cut_from1, Pi.z_callL, Pi.z_callLO, Pi.z_callT, Pi.z_isnotT, Int.cast_ofNat_Int, Int.natCast_one, Int.cast_ofNat_Int, beq_self_eq_true, Bool.and_self, Bool.and_true, Bool.true_and, $args,*])
set_option linter.all false
set_option maxRecDepth 100000
set_option autoImplicit false
/-! Pi31: sets, reckoned -/
namespace Pi
open PySem PySem.Spec PyProof.Rows L2
section
variable {env : PEnv} {i : Nat} {y : D} {k : Key} {ks : List Key} {m : PEnv → R Val} {ms : PEnv → R (List Val)} {neg : Bool}
def set0O (i : Nat) (env : PEnv) : Option (Option Slot) → R Flow
  | none => .stuck
  | some (some (.bor _)) => .stuck
  | _ => .ok .nx (env.set i (some (.set [])))
theorem z_set0 : set0S i env = set0O i env env[i]? := rfl
theorem z_set0_n : set0O i env (some none) = .ok .nx (env.set i (some (.set []))) := rfl
theorem z_set0_v : set0O i env (some (some (.val y))) = .ok .nx (env.set i (some (.set []))) := rfl
def setB : Option (Option Slot) → Bool
  | some (some (.set _)) => true
  | _ => false
theorem z_setAt : setAt env i = setB env[i]? := rfl
theorem z_setB : setB (some (some (.set ks))) = true := rfl
theorem z_sadd : saddE i ms env = if setAt env i = true then (ms env).bind (saddV i) else .stuck := rfl
def saddO (i : Nat) (k : Key) (env : PEnv) : Option (Option Slot) → R Val
  | some (some (.set ks)) => if ks.length < 1000 then .ok (.d .none) (env.set i (some (.set (ks ++ [k])))) else .stuck
  | _ => .stuck
def saddK (i : Nat) (env : PEnv) : Option Key → R Val
  | some k => saddO i k env env[i]?
  | none => .stuck
theorem z_saddV : saddV i [.d y] env = saddK i env (dKey y) := by
  show (match dKey y with
    | some k => _
    | none => _) = _
  cases dKey y with
  | none => rfl
  | some k => rfl
theorem z_saddK : saddK i env (some k) = saddO i k env env[i]? := rfl
theorem z_saddO : saddO i k env (some (some (.set ks))) = if ks.length < 1000 then .ok (.d .none) (env.set i (some (.set (ks ++ [k])))) else .stuck := rfl
def inO (neg : Bool) (k : Key) (env : PEnv) : Option (Option Slot) → R Val
  | some (some (.set ks)) => .ok (.d (.bool (if neg then !hasK ks k else hasK ks k))) env
  | _ => .stuck
def inK (neg : Bool) (i : Nat) (env : PEnv) : Option Key → R Val
  | some k => inO neg k env env[i]?
  | none => .stuck
def k_inSet (neg : Bool) (i : Nat) : Val → PEnv → R Val := fun r env => match r with
  | .d y => match dKey y with
    | some k => match env[i]? with
      | some (some (.set ks)) => .ok (.d (.bool (if neg then !hasK ks k else hasK ks k))) env
      | _ => .stuck
    | none => .stuck
  | _ => .stuck
theorem z_inSet : inSetE neg m i env = (m env).bindF (k_inSet neg i) := rfl
theorem z_inSet_k : k_inSet neg i (.d y) env = inK neg i env (dKey y) := by
  show (match dKey y with
    | some k => _
    | none => _) = _
  cases dKey y with
  | none => rfl
  | some k => rfl
theorem z_inK : inK neg i env (some k) = inO neg k env env[i]? := rfl
theorem z_inO_f : inO false k env (some (some (.set ks))) = .ok (.d (.bool (hasK ks k))) env := rfl
theorem z_inO_t : inO true k env (some (some (.set ks))) = .ok (.d (.bool (!hasK ks k))) env := rfl
end

end Pi

local macro_rules | `(tactic| simp_all_arith! [$args,*]) => `(tactic| simp_all_arith [Pi.z_set0, Pi.z_set0_n, Pi.z_set0_v, Pi.z_setAt, Pi.z_setB, Pi.z_sadd, Pi.z_saddV, Pi.z_saddK, Pi.z_saddO, Pi.z_inSet, Pi.z_inSet_k, Pi.z_inK, Pi.z_inO_f, Pi.z_inO_t, $args,*])
set_option linter.all false
set_option maxRecDepth 100000
set_option autoImplicit false
/-! Pi32: comprehensions of dicts, reckoned -/
namespace Pi
open PySem PySem.Spec PyProof.Rows L2
section
variable {env e : PEnv} {i j : Nat} {js : List Nat} {x y z : D} {xs ys : List D} {acc : List (D × D)} {k : Key} {ek ev : PEnv → R Val} {t : PEnv → R Bool} {gt : Tg} {mi : PEnv → R (List D)}
def k_dc (js : List Nat) (gt : Tg) (t : PEnv → R Bool) (ek ev : PEnv → R Val) : List D → PEnv → R Val := fun items env => if js.all (plainAt env) = true then dcFin js env (dcGo js gt t ek ev items (wipeE env js) []) else .stuck
theorem z_dc : dcE js mi gt t ek ev env = (mi env).bind (k_dc js gt t ek ev) := rfl
theorem z_dc_k : k_dc js gt t ek ev xs env = if js.all (plainAt env) = true then dcFin js env (dcGo js gt t ek ev xs (wipeE env js) []) else .stuck := rfl
theorem z_dcFin : dcFin js env (.ok acc e) = .ok (.d (.dict acc)) (restE env e js) := rfl
theorem z_dcGo_nil : dcGo js gt t ek ev [] env acc = .ok acc env := rfl
def dcV (js : List Nat) (gt : Tg) (t : PEnv → R Bool) (ek ev : PEnv → R Val) (xs : List D) (acc : List (D × D)) (k : Key) : R Val → R (List (D × D))
  | .ok rv env4 => match rv.frz with
    | .d z => if acc.length < big then dcGo js gt t ek ev xs (wipeE env4 js) (putD acc k z) else .stuck
    | _ => .stuck
  | _ => .stuck
def dcK (js : List Nat) (gt : Tg) (t : PEnv → R Bool) (ek ev : PEnv → R Val) (xs : List D) (acc : List (D × D)) (e : PEnv) : Option Key → R (List (D × D))
  | some k => dcV js gt t ek ev xs acc k (ev e)
  | none => .stuck
def dcN (js : List Nat) (gt : Tg) (t : PEnv → R Bool) (ek ev : PEnv → R Val) (xs : List D) (acc : List (D × D)) : R Val → R (List (D × D))
  | .ok rk env3 => match rk.frz with
    | .d y => dcK js gt t ek ev xs acc env3 (dKey y)
    | _ => .stuck
  | _ => .stuck
def dcT (js : List Nat) (gt : Tg) (t : PEnv → R Bool) (ek ev : PEnv → R Val) (xs : List D) (acc : List (D × D)) : R Bool → R (List (D × D))
  | .ok true env2 => dcN js gt t ek ev xs acc (ek env2)
  | .ok false env2 => dcGo js gt t ek ev xs (wipeE env2 js) acc
  | _ => .stuck
def dcG (js : List Nat) (gt : Tg) (t : PEnv → R Bool) (ek ev : PEnv → R Val) (xs : List D) (acc : List (D × D)) : Option PEnv → R (List (D × D))
  | none => .stuck
  | some env1 => dcT js gt t ek ev xs acc (t env1)
theorem z_dcGo : dcGo js gt t ek ev (x :: xs) env acc = dcG js gt t ek ev xs acc (gt x env) := by
  show (match gt x env with
    | none => _
    | some env1 => _) = _
  cases gt x env with
  | none => rfl
  | some env1 =>
    show (match t env1 with
      | .ok true env2 => _
      | .ok false env2 => _
      | _ => _) = dcT js gt t ek ev xs acc (t env1)
    cases t env1 with
    | stuck => rfl
    | exc c x e => rfl
    | ok b e => cases b with
      | false => rfl
      | true =>
        show (match ek e with
          | .ok r env3 => _
          | _ => _) = dcN js gt t ek ev xs acc (ek e)
        cases ek e with
        | stuck => rfl
        | exc c x e => rfl
        | ok r e3 =>
          show (match r.frz with
            | .d y => _
            | _ => _) = (match r.frz with
            | .d y => dcK js gt t ek ev xs acc e3 (dKey y)
            | _ => .stuck)
          cases r.frz with
          | d y =>
            show (match dKey y with
              | some k => _
              | none => _) = dcK js gt t ek ev xs acc e3 (dKey y)
            cases dKey y with
            | none => rfl
            | some k =>
              show (match ev e3 with
                | .ok rv env4 => _
                | _ => _) = dcV js gt t ek ev xs acc k (ev e3)
              cases ev e3 <;> rfl
          | own i => rfl
          | new xs => rfl
          | fn f => rfl
theorem z_dcG : dcG js gt t ek ev xs acc (some e) = dcT js gt t ek ev xs acc (t e) := rfl
theorem z_dcT_t : dcT js gt t ek ev xs acc (.ok true e) = dcN js gt t ek ev xs acc (ek e) := rfl
theorem z_dcT_f : dcT js gt t ek ev xs acc (.ok false e) = dcGo js gt t ek ev xs (wipeE e js) acc := rfl
theorem z_dcN : dcN js gt t ek ev xs acc (.ok (.d y) e) = dcK js gt t ek ev xs acc e (dKey y) := rfl
theorem z_dcK : dcK js gt t ek ev xs acc e (some k) = dcV js gt t ek ev xs acc k (ev e) := rfl
theorem z_dcV : dcV js gt t ek ev xs acc k (.ok (.d z) e) = if acc.length < 1000000 then dcGo js gt t ek ev xs (wipeE e js) (putD acc k z) else .stuck := rfl
theorem z_dcV_n : dcV js gt t ek ev xs acc k (.ok (.new ys) e) = if acc.length < 1000000 then dcGo js gt t ek ev xs (wipeE e js) (putD acc k (.list ys)) else .stuck := rfl
end

end Pi

local macro_rules | `(tactic| simp! [$args,*]) => `(tactic| simp_arith! [Pi.z_dc, Pi.z_dc_k, Pi.z_dcFin, Pi.z_dcGo_nil, Pi.z_dcGo, Pi.z_dcG, Pi.z_dcT_t, Pi.z_dcT_f, Pi.z_dcN, Pi.z_dcK, Pi.z_dcV, Pi.z_dcV_n, $args,*])
set_option linter.all false
set_option maxRecDepth 100000
set_option autoImplicit false
/-! Pi33: dicts of texts -/
namespace Pi
open PySem PySem.Spec PyProof.Rows L2
/-- a dict with text keys -/
def mkD (ps : List (Str × D)) : List (D × D) := ps.map fun p => (.str p.1, p.2)
theorem keyIs_str {t s : Str} : keyIs (.str t) (.inr s) = decide (t = s) := rfl
theorem put_new {ps : List (Str × D)} {s : Str} {v : D} (h : s ∉ ps.map (·.1)) : putD (mkD ps) (.inr s) v = mkD (ps ++ [(s, v)]) := by
  have n : ((mkD ps).any fun p => keyIs p.1 (.inr s)) = false := by
    rw [List.any_eq_false]
    intro p hp
    obtain ⟨q, hq, rfl⟩ := List.mem_map.mp hp
    rw [keyIs_str]
    simp only [decide_eq_true_eq]
    intro e
    exact h (e ▸ List.mem_map.mpr ⟨q, hq, rfl⟩)
  unfold putD
  rw [n]
  simp [mkD]
  rfl
theorem look_mk {ps : List (Str × D)} {s : Str} {v : D} (nd : (ps.map (·.1)).Nodup) (h : (s, v) ∈ ps) : dLook (mkD ps) (.inr s) = some v := by
  induction ps with
  | nil => cases h
  | cons p ps ih =>
    unfold dLook mkD
    rw [List.map_cons, List.find?_cons, keyIs_str]
    by_cases z : p.1 = s
    · rw [decide_eq_true z]
      rcases List.mem_cons.mp h with e | m
      · rw [← e]; rfl
      · have n := (List.nodup_cons.mp nd).1
        exact absurd (List.mem_map.mpr ⟨_, m, z.symm⟩) n
    · rw [decide_eq_false z]
      rcases List.mem_cons.mp h with e | m
      · exact absurd (by rw [← e]) z
      · exact ih (List.nodup_cons.mp nd).2 m
theorem set_same {env : PEnv} {j : Nat} {o : Option Slot} (h : env[j]? = some o) : env.set j o = env := by
  apply List.ext_getElem?
  intro i
  by_cases z : j = i
  · subst z
    rw [List.getElem?_set_self (List.getElem?_eq_some_iff.mp h).1, h]
  · rw [List.getElem?_set_ne z]
/-- {key(x): val(x) for x in xs} -/
theorem dict_go {j : Nat} {ek ev : PEnv → R Val} {env : PEnv} {key : D → Str} {vl : D → D} (hj : env[j]? = some none) : ∀ (xs : List D) (acc : List (Str × D)), (∀ x ∈ xs, ek (env.set j (some (.val x))) = .ok (.d (.str (key x))) (env.set j (some (.val x))) ∧ (∃ r, ev (env.set j (some (.val x))) = .ok r (env.set j (some (.val x))) ∧ r.frz = .d (vl x))) →
    (acc.map (·.1) ++ xs.map key).Nodup → acc.length + xs.length < 1000000 → dcGo [j] (nameG j) yesT ek ev xs env (mkD acc) = .ok (mkD (acc ++ xs.map fun x => (key x, vl x))) env
  | [], acc, _, _, _ => by rw [z_dcGo_nil, List.map_nil, List.append_nil]
  | x :: xs, acc, h, nd, hl => by
    obtain ⟨h1, r, h2, h3⟩ := h x List.mem_cons_self
    have nin : key x ∉ acc.map (·.1) := fun m => (List.nodup_append.mp nd).2.2 _ m _ (by simp) rfl
    have back : wipeE (env.set j (some (.val x))) [j] = env := by
      show (env.set j (some (.val x))).set j none = env
      rw [List.set_set]
      exact set_same hj
    have ap : acc.map (·.1) ++ (x :: xs).map key = (acc ++ [(key x, vl x)]).map (·.1) ++ xs.map key := by simp
    have ih := dict_go hj xs (acc ++ [(key x, vl x)]) (fun y hy => h y (List.mem_cons_of_mem _ hy)) (ap ▸ nd) (by simp at hl ⊢; omega)
    have fl : (mkD acc).length < big := by show _ < 1000000; unfold mkD; rw [List.length_map]; simp at hl; omega
    rw [z_dcGo, z_nameG, hj, z_nameO_n, z_dcG, z_yes, z_dcT_t, h1, z_dcN]
    rw [show dKey (.str (key x)) = some (.inr (key x)) from rfl, z_dcK, h2]
    show (match r.frz with
      | .d z => if (mkD acc).length < big then dcGo [j] (nameG j) yesT ek ev xs (wipeE (env.set j (some (.val x))) [j]) (putD (mkD acc) (.inr (key x)) z) else .stuck
      | _ => .stuck) = _
    rw [h3]
    dsimp only
    rw [if_pos fl, back, put_new nin, ih, List.append_assoc]
    rfl
end Pi


set_option linter.all false
set_option maxRecDepth 100000
set_option autoImplicit false
/-! Pi34: looking into dicts of texts -/
namespace Pi
open PySem PySem.Spec PyProof.Rows L2
theorem any_mk {ps : List (Str × D)} {s : Str} (h : s ∈ ps.map (·.1)) : ((mkD ps).any fun p => keyIs p.1 (.inr s)) = true := by
  obtain ⟨q, hq, e⟩ := List.mem_map.mp h
  rw [List.any_eq_true]
  exact ⟨(.str q.1, q.2), List.mem_map.mpr ⟨q, hq, rfl⟩, by rw [keyIs_str, decide_eq_true e]⟩
theorem notin_mk {ps : List (Str × D)} {s : Str} {v : D} (nd : (ps.map (·.1)).Nodup) (h : (s, v) ∈ ps) : notinDX (.str s) (.dict (mkD ps)) = some (.d (.bool false)) := by
  have e : notinD2 (.str s) (.dict (mkD ps)) = some (.d (.bool (!(dLook (mkD ps) (.inr s)).isSome))) := rfl
  have e2 : orD notinD notinD2 (.str s) (.dict (mkD ps)) = some (.d (.bool false)) := by
    show notinD2 (.str s) (.dict (mkD ps)) = _
    rw [e, look_mk nd h]
    rfl
  show orD (orD notinD notinD2) notinD3 (.str s) (.dict (mkD ps)) = _
  rw [orD, e2]
theorem ix_mk {ps : List (Str × D)} {s : Str} {v : D} (nd : (ps.map (·.1)).Nodup) (h : (s, v) ∈ ps) : ixD2 (.dict (mkD ps)) (.str s) = some (.d v) := by
  show (match dLook (mkD ps) (.inr s) with
    | some d => some (Val.d d)
    | none => none) = _
  rw [look_mk nd h]
end Pi


set_option Elab.async false
set_option linter.all false
set_option maxRecDepth 100000
set_option maxHeartbeats 0
set_option autoImplicit false
namespace Pi.K03
open PySem PySem.Spec PyProof.Rows L2
def top (i : Nat) : Stmt := PySem.Challenge.pw_fewprobes_k03_whole_edges.main.body.getD i (.Pass ⟨0, 0, 0, 0⟩)
def d_GREATEST_COUNTER : PyData := (.int 999)
def d_MOST_BLOCKS : PyData := (.int 160)
def d_MOST_FUNCTIONS : PyData := (.int 8)
def d_MOST_LETTERS : PyData := (.int 30)
def d_MOST_PARAMETERS : PyData := (.int 6)
def d_RESERVED : PyData := (.tuple [(.str "again"), (.str "call"), (.str "catch"), (.str "else"), (.str "fun"), (.str "if"), (.str "leave"), (.str "over"), (.str "print"), (.str "raise"), (.str "read"), (.str "rest"), (.str "return"), (.str "try"), (.str "while")])
def d_SIGNS : PyData := (.tuple [(.str "plus"), (.str "minus"), (.str "times"), (.str "over"), (.str "rest"), (.str "less"), (.str "same")])
def t_ENDS : List (Str × PyData) := [("go", (.tuple [(.str "word")])), ("test", (.tuple [(.str "word"), (.str "word"), (.str "word")])), ("call", (.tuple [(.str "word"), (.str "word"), (.str "names"), (.str "word")])), ("try", (.tuple [(.str "word"), (.str "word"), (.str "names"), (.str "word"), (.str "word"), (.str "word")])), ("return", (.tuple [(.str "word")])), ("raise", (.tuple [(.str "word")]))]
def t_STEPS : List (Str × PyData) := [("set", (.tuple [(.str "word"), (.str "number")])), ("copy", (.tuple [(.str "word"), (.str "word")])), ("deed", (.tuple [(.str "word"), (.str "sign"), (.str "word"), (.str "word")])), ("read", (.tuple [(.str "word")])), ("print", (.tuple [(.str "word")])), ("count", (.tuple [(.str "counter")]))]
def t_WAYS : List (Str × PyData) := [("go", (.tuple [(.tuple [(.str "go"), (.int 1)])])), ("test", (.tuple [(.tuple [(.str "yes"), (.int 2)]), (.tuple [(.str "no"), (.int 3)])])), ("call", (.tuple [(.tuple [(.str "call"), .none]), (.tuple [(.str "value"), (.int 4)]), (.tuple [(.str "fault"), .none])])), ("try", (.tuple [(.tuple [(.str "call"), .none]), (.tuple [(.str "value"), (.int 4)]), (.tuple [(.str "fault"), (.int 6)])])), ("return", (.tuple [(.tuple [(.str "return"), .none])])), ("raise", (.tuple [(.tuple [(.str "raise"), .none])]))]
structure Amb (P : Program) (w : World) (K : Kf) (mg : Str → Option Value) (base : Heap) (fa ca : Str → Addr) : Prop where
  b_all : mg "all" = none
  b_bool : mg "bool" = none
  b_enumerate : mg "enumerate" = none
  b_int : mg "int" = none
  b_isinstance : mg "isinstance" = none
  b_len : mg "len" = none
  b_list : mg "list" = none
  b_max : mg "max" = none
  b_min : mg "min" = none
  b_range : mg "range" = none
  b_repr : mg "repr" = none
  b_set : mg "set" = none
  b_str : mg "str" = none
  b_sum : mg "sum" = none
  b_tuple : mg "tuple" = none
  b_zip : mg "zip" = none
  k_GREATEST_COUNTER : KD K mg "GREATEST_COUNTER" d_GREATEST_COUNTER
  k_MOST_BLOCKS : KD K mg "MOST_BLOCKS" d_MOST_BLOCKS
  k_MOST_FUNCTIONS : KD K mg "MOST_FUNCTIONS" d_MOST_FUNCTIONS
  k_MOST_LETTERS : KD K mg "MOST_LETTERS" d_MOST_LETTERS
  k_MOST_PARAMETERS : KD K mg "MOST_PARAMETERS" d_MOST_PARAMETERS
  k_RESERVED : KD K mg "RESERVED" d_RESERVED
  k_SIGNS : KD K mg "SIGNS" d_SIGNS
  g_ENDS : mg "ENDS" = some (.ref (ca "ENDS"))
  t_ENDS : KTab K w (ca "ENDS") t_ENDS
  g_STEPS : mg "STEPS" = some (.ref (ca "STEPS"))
  t_STEPS : KTab K w (ca "STEPS") t_STEPS
  g_WAYS : mg "WAYS" = some (.ref (ca "WAYS"))
  t_WAYS : KTab K w (ca "WAYS") t_WAYS
  e_InvalidEdge : ErrD P w K mg base "InvalidEdge" (ca "InvalidEdge")
  e_InvalidProgram : ErrD P w K mg base "InvalidProgram" (ca "InvalidProgram")
  c_InvalidEdge : mg "InvalidEdge" = some (.ref (ca "InvalidEdge"))
  f_InvalidEdge : ErrF K (ca "InvalidEdge")
  sm : SysM K
def wh__law_drawn_order : Nat := 100
/-! ### is_whole -/
abbrev s_is_whole : Stmt := top 6
abbrev N_is_whole : List Str := ["value"]
theorem sc_is_whole : FnScope N_is_whole ["value"] (defScope s_is_whole) := ⟨rfl, rfl, rfl, by decide +kernel, rfl, by decide +kernel, by decide +kernel⟩
def m_is_whole : PEnv → R Flow := retS (andE (unE (isiD "int") (slotE 0)) (notE (unE (isiD "bool") (slotE 0))))
def f_is_whole : Fn := runF 1 1 m_is_whole
/-! ### is_sign -/
abbrev s_is_sign : Stmt := top 7
abbrev N_is_sign : List Str := ["value"]
theorem sc_is_sign : FnScope N_is_sign ["value"] (defScope s_is_sign) := ⟨rfl, rfl, rfl, by decide +kernel, rfl, by decide +kernel, by decide +kernel⟩
def m_is_sign : PEnv → R Flow := retS (andE (unE (isiD "str") (slotE 0)) (binE inDX (slotE 0) (cstE d_SIGNS)))
def f_is_sign : Fn := runF 1 1 m_is_sign
/-! ### is_tuple_of -/
abbrev s_is_tuple_of : Stmt := top 8
abbrev N_is_tuple_of : List Str := ["value", "many"]
theorem sc_is_tuple_of : FnScope N_is_tuple_of ["value", "many"] (defScope s_is_tuple_of) := ⟨rfl, rfl, rfl, by decide +kernel, rfl, by decide +kernel, by decide +kernel⟩
def m_is_tuple_of : PEnv → R Flow := retS (andE (unE (isiD "tuple") (slotE 0)) (binE eqD (bltE lenD (consA (slotE 0) (nilA))) (slotE 1)))
def f_is_tuple_of : Fn := runF 2 2 m_is_tuple_of
/-! ### is_list_of -/
abbrev s_is_list_of : Stmt := top 9
abbrev N_is_list_of : List Str := ["value", "least", "most"]
theorem sc_is_list_of : FnScope N_is_list_of ["value", "least", "most"] (defScope s_is_list_of) := ⟨rfl, rfl, rfl, by decide +kernel, rfl, by decide +kernel, by decide +kernel⟩
def m_is_list_of : PEnv → R Flow := retS (andE (unE (isiD "list") (slotE 0)) (chainE leD leD (slotE 1) (bltE lenD (consA (slotE 0) (nilA))) (slotE 2)))
def f_is_list_of : Fn := runF 3 3 m_is_list_of
/-! ### are_unlike -/
abbrev s_are_unlike : Stmt := top 10
abbrev N_are_unlike : List Str := ["words"]
theorem sc_are_unlike : FnScope N_are_unlike ["words"] (defScope s_are_unlike) := ⟨rfl, rfl, rfl, by decide +kernel, rfl, by decide +kernel, by decide +kernel⟩
def m_are_unlike : PEnv → R Flow := retS (binE eqD (unE lenSetD (slotE 0)) (bltE lenD (consA (slotE 0) (nilA))))
def f_are_unlike : Fn := runF 1 1 m_are_unlike
/-! ### first_word -/
abbrev s_first_word : Stmt := top 11
abbrev N_first_word : List Str := ["value"]
theorem sc_first_word : FnScope N_first_word ["value"] (defScope s_first_word) := ⟨rfl, rfl, rfl, by decide +kernel, rfl, by decide +kernel, by decide +kernel⟩
def m_first_word : PEnv → R Flow := seqS (ifS (andT (truT (unE (isiD "tuple") (slotE 0))) (andT (boolT (binE gtD (bltE lenD (consA (slotE 0) (nilA))) (cstE (.int 0)))) (truT (unE (isiD "str") (binE ixD2 (slotE 0) (cstE (.int 0))))))) (retS (binE ixD2 (slotE 0) (cstE (.int 0)))) (skipS)) (retS (cstE (.str "")))
def f_first_word : Fn := runF 1 1 m_first_word
/-! ### has_word_signs -/
abbrev s_has_word_signs : Stmt := top 18
abbrev N_has_word_signs : List Str := ["text"]
theorem sc_has_word_signs : FnScope N_has_word_signs ["text"] (defScope s_has_word_signs) := ⟨rfl, rfl, rfl, by decide +kernel, rfl, by decide +kernel, by decide +kernel⟩
def m_has_word_signs : PEnv → R Flow := seqS (ifS (notT (boolT (chainE leD leD (cstE (.int 1)) (bltE lenD (consA (slotE 0) (nilA))) (cstE d_MOST_LETTERS)))) (retS (cstE (.bool false))) (skipS)) (retS (andE (unE isasciiD (slotE 0)) (andE (unE isalnumD (slotE 0)) (andE (binE eqD (slotE 0) (unE lowerD (slotE 0))) (unE isalphaD (binE ixD2 (slotE 0) (cstE (.int 0))))))))
def f_has_word_signs : Fn := runF 1 1 m_has_word_signs
/-! ### is_word -/
abbrev s_is_word : Stmt := top 17
abbrev N_is_word : List Str := ["value"]
theorem sc_is_word : FnScope N_is_word ["value"] (defScope s_is_word) := ⟨rfl, rfl, rfl, by decide +kernel, rfl, by decide +kernel, by decide +kernel⟩
def m_is_word : PEnv → R Flow := retS (andE (unE (isiD "str") (slotE 0)) (andE (callE f_has_word_signs (consA (slotE 0) (nilA))) (binE notinDX (slotE 0) (cstE d_RESERVED))))
def f_is_word : Fn := runF 1 1 m_is_word
/-! ### are_names -/
abbrev s_are_names : Stmt := top 37
abbrev N_are_names : List Str := ["value", "name"]
theorem sc_are_names : FnScope N_are_names ["value"] (defScope s_are_names) := ⟨rfl, rfl, rfl, by decide +kernel, rfl, by decide +kernel, by decide +kernel⟩
def m_are_names : PEnv → R Flow := seqS (ifS (orT (notT (truT (unE (isiD "tuple") (slotE 0)))) (boolT (binE gtD (bltE lenD (consA (slotE 0) (nilA))) (cstE d_MOST_PARAMETERS)))) (retS (cstE (.bool false))) (skipS)) (retS (bltE allD (consA (lcE [1] (seqI (slotE 0)) (nameG 1) (yesT) (callE f_is_word (consA (slotE 1) (nilA)))) (nilA))))
def f_are_names : Fn := runF 1 2 m_are_names
/-! ### is_part -/
abbrev s_is_part : Stmt := top 36
abbrev N_is_part : List Str := ["value", "kind"]
theorem sc_is_part : FnScope N_is_part ["value", "kind"] (defScope s_is_part) := ⟨rfl, rfl, rfl, by decide +kernel, rfl, by decide +kernel, by decide +kernel⟩
def m_is_part : PEnv → R Flow := seqS (ifS (boolT (binE eqD (slotE 1) (cstE (.str "number")))) (retS (callE f_is_whole (consA (slotE 0) (nilA)))) (skipS)) (seqS (ifS (boolT (binE eqD (slotE 1) (cstE (.str "counter")))) (retS (andE (callE f_is_whole (consA (slotE 0) (nilA))) (chainE leD leD (cstE (.int 0)) (slotE 0) (cstE d_GREATEST_COUNTER)))) (skipS)) (seqS (ifS (boolT (binE eqD (slotE 1) (cstE (.str "sign")))) (retS (callE f_is_sign (consA (slotE 0) (nilA)))) (skipS)) (seqS (ifS (boolT (binE eqD (slotE 1) (cstE (.str "names")))) (retS (callE f_are_names (consA (slotE 0) (nilA)))) (skipS)) (retS (callE f_is_word (consA (slotE 0) (nilA)))))))
def f_is_part : Fn := runF 2 2 m_is_part
/-! ### has_parts -/
abbrev s_has_parts : Stmt := top 12
abbrev N_has_parts : List Str := ["value", "kinds", "is_part", "part", "kind"]
theorem sc_has_parts : FnScope N_has_parts ["value", "kinds", "is_part"] (defScope s_has_parts) := ⟨rfl, rfl, rfl, by decide +kernel, rfl, by decide +kernel, by decide +kernel⟩
def m_has_parts : PEnv → R Flow := seqS (ifS (boolT (binE neD (bltE lenD (consA (slotE 0) (nilA))) (binE addD (bltE lenD (consA (slotE 1) (nilA))) (cstE (.int 1))))) (retS (cstE (.bool false))) (skipS)) (retS (bltE allD (consA (lcE [3, 4] (zipI (slE (slotE 0) (some (cstE (.int 1))) (none)) (slotE 1)) (tupG [nameG 3, nameG 4]) (yesT) (callLE 2 (tbOf [("is_part", f_is_part)]) (consA (slotE 3) (consA (slotE 4) (nilA))))) (nilA))))
def f_has_parts : Fn := runF 3 5 m_has_parts
/-! ### are_parameters -/
abbrev s_are_parameters : Stmt := top 19
abbrev N_are_parameters : List Str := ["value", "is_name", "name"]
theorem sc_are_parameters : FnScope N_are_parameters ["value", "is_name"] (defScope s_are_parameters) := ⟨rfl, rfl, rfl, by decide +kernel, rfl, by decide +kernel, by decide +kernel⟩
def m_are_parameters : PEnv → R Flow := seqS (ifS (notT (truT (callE f_is_list_of (consA (slotE 0) (consA (cstE (.int 0)) (consA (cstE d_MOST_PARAMETERS) (nilA))))))) (retS (cstE (.bool false))) (skipS)) (retS (andE (bltE allD (consA (lcE [2] (seqI (slotE 0)) (nameG 2) (yesT) (callLE 1 (tbOf [("is_word", f_is_word)]) (consA (slotE 2) (nilA)))) (nilA))) (callE f_are_unlike (consA (slotE 0) (nilA)))))
def f_are_parameters : Fn := runF 2 3 m_are_parameters
/-! ### labels_of -/
abbrev s_labels_of : Stmt := top 40
abbrev N_labels_of : List Str := ["end", "way", "at"]
theorem sc_labels_of : FnScope N_labels_of ["end"] (defScope s_labels_of) := ⟨rfl, rfl, rfl, by decide +kernel, rfl, by decide +kernel, by decide +kernel⟩
def m_labels_of : PEnv → R Flow := retS (lcE [1, 2] (seqI (unE (tabIx t_WAYS) (binE ixD2 (slotE 0) (cstE (.int 0))))) (tupG [nameG 1, nameG 2]) (boolT (binE isnotD (slotE 2) (cstE .none))) (binE ixD2 (slotE 0) (slotE 2)))
def f_labels_of : Fn := runF 1 3 m_labels_of
/-! ### why_unfit -/
abbrev s_why_unfit : Stmt := top 39
abbrev N_why_unfit : List Str := ["end", "labels", "many", "label"]
theorem sc_why_unfit : FnScope N_why_unfit ["end", "labels", "many"] (defScope s_why_unfit) := ⟨rfl, rfl, rfl, by decide +kernel, rfl, by decide +kernel, by decide +kernel⟩
def m_why_unfit : PEnv → R Flow := seqS (forS (seqI (callE f_labels_of (consA (slotE 0) (nilA)))) (nameG 3) (ifS (boolT (binE notinDX (slotE 3) (slotE 1))) (retS (cstE (.str "label"))) (skipS))) (seqS (ifS (boolT (binE notinDX (binE ixD2 (slotE 0) (cstE (.int 0))) (tupE (consA (cstE (.str "call")) (consA (cstE (.str "try")) (nilA)))))) (retS (cstE .none)) (skipS)) (seqS (ifS (boolT (binE notinDX (binE ixD2 (slotE 0) (cstE (.int 2))) (slotE 2))) (retS (cstE (.str "function"))) (skipS)) (seqS (ifS (boolT (binE neD (bltE lenD (consA (binE ixD2 (slotE 0) (cstE (.int 3))) (nilA))) (binE ixD2 (slotE 2) (binE ixD2 (slotE 0) (cstE (.int 2)))))) (retS (cstE (.str "arguments"))) (skipS)) (retS (cstE .none)))))
def f_why_unfit : Fn := runF 3 4 m_why_unfit
/-! ### first_wrong_end -/
abbrev s_first_wrong_end : Stmt := top 38
abbrev N_first_wrong_end : List Str := ["functions", "function", "many", "f", "block", "labels", "b", "label", "steps", "end", "reason"]
theorem sc_first_wrong_end : FnScope N_first_wrong_end ["functions"] (defScope s_first_wrong_end) := ⟨rfl, rfl, rfl, by decide +kernel, rfl, by decide +kernel, by decide +kernel⟩
def m_first_wrong_end : PEnv → R Flow := seqS (asgS 2 false (dcE [1] (seqI (slotE 0)) (nameG 1) (yesT) (binE ixD2 (slotE 1) (cstE (.int 0))) (bltE lenD (consA (binE ixD2 (slotE 1) (cstE (.int 1))) (nilA))))) (seqS (forS (enumI (slotE 0)) (tupG [nameG 3, nameG 1]) (seqS (asgS 5 false (dcE [4] (seqI (binE ixD2 (slotE 1) (cstE (.int 2)))) (nameG 4) (yesT) (binE ixD2 (slotE 4) (cstE (.int 0))) (cstE (.bool true)))) (forS (enumI (binE ixD2 (slotE 1) (cstE (.int 2)))) (tupG [nameG 6, nameG 4]) (seqS (unpS (tupG [nameG 7, nameG 8, nameG 9]) (slotE 4)) (seqS (asgS 10 false (callE f_why_unfit (consA (slotE 9) (consA (slotE 5) (consA (slotE 2) (nilA)))))) (ifS (boolT (binE isnotD (slotE 10) (cstE .none))) (retS (tupE (consA (tupE (consA (slotE 3) (consA (slotE 6) (consA (bltE lenD (consA (slotE 8) (nilA))) (nilA))))) (consA (slotE 10) (nilA))))) (skipS))))))) (retS (cstE .none)))
def f_first_wrong_end : Fn := runF 1 11 m_first_wrong_end
/-! ### is_end -/
abbrev s_is_end : Stmt := top 35
abbrev N_is_end : List Str := ["value", "kinds"]
theorem sc_is_end : FnScope N_is_end ["value"] (defScope s_is_end) := ⟨rfl, rfl, rfl, by decide +kernel, rfl, by decide +kernel, by decide +kernel⟩
def m_is_end : PEnv → R Flow := seqS (asgS 1 false (unE (tabGet t_ENDS) (callE f_first_word (consA (slotE 0) (nilA))))) (retS (andE (binE isnotD (slotE 1) (cstE .none)) (callE f_has_parts (consA (slotE 0) (consA (slotE 1) (consA (fnE "is_part") (nilA)))))))
def f_is_end : Fn := runF 1 2 m_is_end
/-! ### is_step -/
abbrev s_is_step : Stmt := top 34
abbrev N_is_step : List Str := ["value", "kinds"]
theorem sc_is_step : FnScope N_is_step ["value"] (defScope s_is_step) := ⟨rfl, rfl, rfl, by decide +kernel, rfl, by decide +kernel, by decide +kernel⟩
def m_is_step : PEnv → R Flow := seqS (asgS 1 false (unE (tabGet t_STEPS) (callE f_first_word (consA (slotE 0) (nilA))))) (retS (andE (binE isnotD (slotE 1) (cstE .none)) (callE f_has_parts (consA (slotE 0) (consA (slotE 1) (consA (fnE "is_part") (nilA)))))))
def f_is_step : Fn := runF 1 2 m_is_step
/-! ### first_wrong_step -/
abbrev s_first_wrong_step : Stmt := top 33
abbrev N_first_wrong_step : List Str := ["steps", "end", "s", "step"]
theorem sc_first_wrong_step : FnScope N_first_wrong_step ["steps", "end"] (defScope s_first_wrong_step) := ⟨rfl, rfl, rfl, by decide +kernel, rfl, by decide +kernel, by decide +kernel⟩
def m_first_wrong_step : PEnv → R Flow := seqS (forS (enumI (slotE 0)) (tupG [nameG 2, nameG 3]) (ifS (notT (truT (callE f_is_step (consA (slotE 3) (nilA))))) (retS (slotE 2)) (skipS))) (seqS (ifS (notT (truT (callE f_is_end (consA (slotE 1) (nilA))))) (retS (bltE lenD (consA (slotE 0) (nilA)))) (skipS)) (retS (cstE .none)))
def f_first_wrong_step : Fn := runF 2 4 m_first_wrong_step
/-! ### is_block -/
abbrev s_is_block : Stmt := top 32
abbrev N_is_block : List Str := ["value", "label", "steps", "end"]
theorem sc_is_block : FnScope N_is_block ["value"] (defScope s_is_block) := ⟨rfl, rfl, rfl, by decide +kernel, rfl, by decide +kernel, by decide +kernel⟩
def m_is_block : PEnv → R Flow := seqS (ifS (notT (truT (callE f_is_tuple_of (consA (slotE 0) (consA (cstE (.int 3)) (nilA)))))) (retS (cstE (.bool false))) (skipS)) (seqS (unpS (tupG [nameG 1, nameG 2, nameG 3]) (slotE 0)) (retS (andE (callE f_is_word (consA (slotE 1) (nilA))) (andE (unE (isiD "list") (slotE 2)) (unE (isiD "tuple") (slotE 3))))))
def f_is_block : Fn := runF 1 4 m_is_block
/-! ### first_wrong_block -/
abbrev s_first_wrong_block : Stmt := top 31
abbrev N_first_wrong_block : List Str := ["f", "blocks", "labels", "b", "block", "label", "steps", "end", "s"]
theorem sc_first_wrong_block : FnScope N_first_wrong_block ["f", "blocks"] (defScope s_first_wrong_block) := ⟨rfl, rfl, rfl, by decide +kernel, rfl, by decide +kernel, by decide +kernel⟩
def m_first_wrong_block : PEnv → R Flow := seqS (set0S 2) (seqS (forS (enumI (slotE 1)) (tupG [nameG 3, nameG 4]) (seqS (ifS (notT (truT (callE f_is_block (consA (slotE 4) (nilA))))) (retS (tupE (consA (tupE (consA (slotE 0) (consA (slotE 3) (nilA)))) (consA (cstE (.str "form")) (nilA))))) (skipS)) (seqS (ifS (boolT (inSetE false (binE ixD2 (slotE 4) (cstE (.int 0))) 2)) (retS (tupE (consA (tupE (consA (slotE 0) (consA (slotE 3) (nilA)))) (consA (cstE (.str "twice")) (nilA))))) (skipS)) (seqS (exprS (saddE 2 (consA (binE ixD2 (slotE 4) (cstE (.int 0))) (nilA)))) (seqS (unpS (tupG [nameG 5, nameG 6, nameG 7]) (slotE 4)) (seqS (asgS 8 false (callE f_first_wrong_step (consA (slotE 6) (consA (slotE 7) (nilA))))) (ifS (boolT (binE isnotD (slotE 8) (cstE .none))) (retS (tupE (consA (tupE (consA (slotE 0) (consA (slotE 3) (consA (slotE 8) (nilA))))) (consA (cstE (.str "form")) (nilA))))) (skipS)))))))) (retS (cstE .none)))
def f_first_wrong_block : Fn := runF 2 9 m_first_wrong_block
/-! ### is_function -/
abbrev s_is_function : Stmt := top 30
abbrev N_is_function : List Str := ["value", "name", "parameters", "blocks"]
theorem sc_is_function : FnScope N_is_function ["value"] (defScope s_is_function) := ⟨rfl, rfl, rfl, by decide +kernel, rfl, by decide +kernel, by decide +kernel⟩
def m_is_function : PEnv → R Flow := seqS (ifS (notT (truT (callE f_is_tuple_of (consA (slotE 0) (consA (cstE (.int 3)) (nilA)))))) (retS (cstE (.bool false))) (skipS)) (seqS (unpS (tupG [nameG 1, nameG 2, nameG 3]) (slotE 0)) (retS (andE (callE f_is_word (consA (slotE 1) (nilA))) (andE (callE f_are_parameters (consA (slotE 2) (consA (fnE "is_word") (nilA)))) (callE f_is_list_of (consA (slotE 3) (consA (cstE (.int 1)) (consA (cstE d_MOST_BLOCKS) (nilA)))))))))
def f_is_function : Fn := runF 1 4 m_is_function
/-! ### first_wrong_form -/
abbrev s_first_wrong_form : Stmt := top 29
abbrev N_first_wrong_form : List Str := ["functions", "names", "f", "function", "wrong"]
theorem sc_first_wrong_form : FnScope N_first_wrong_form ["functions"] (defScope s_first_wrong_form) := ⟨rfl, rfl, rfl, by decide +kernel, rfl, by decide +kernel, by decide +kernel⟩
def m_first_wrong_form : PEnv → R Flow := seqS (set0S 1) (seqS (forS (enumI (slotE 0)) (tupG [nameG 2, nameG 3]) (seqS (ifS (notT (truT (callE f_is_function (consA (slotE 3) (nilA))))) (retS (tupE (consA (tupE (consA (slotE 2) (nilA))) (consA (cstE (.str "form")) (nilA))))) (skipS)) (seqS (ifS (boolT (inSetE false (binE ixD2 (slotE 3) (cstE (.int 0))) 1)) (retS (tupE (consA (tupE (consA (slotE 2) (nilA))) (consA (cstE (.str "twice")) (nilA))))) (skipS)) (seqS (exprS (saddE 1 (consA (binE ixD2 (slotE 3) (cstE (.int 0))) (nilA)))) (seqS (asgS 4 false (callE f_first_wrong_block (consA (slotE 2) (consA (binE ixD2 (slotE 3) (cstE (.int 2))) (nilA))))) (ifS (boolT (binE isnotD (slotE 4) (cstE .none))) (retS (slotE 4)) (skipS))))))) (retS (cstE .none)))
def f_first_wrong_form : Fn := runF 1 5 m_first_wrong_form
/-! ### first_wrong -/
abbrev s_first_wrong : Stmt := top 28
abbrev N_first_wrong : List Str := ["value", "wrong"]
theorem sc_first_wrong : FnScope N_first_wrong ["value"] (defScope s_first_wrong) := ⟨rfl, rfl, rfl, by decide +kernel, rfl, by decide +kernel, by decide +kernel⟩
def m_first_wrong : PEnv → R Flow := seqS (ifS (orT (notT (truT (callE f_is_tuple_of (consA (slotE 0) (consA (cstE (.int 2)) (nilA)))))) (orT (boolT (binE neD (binE ixD2 (slotE 0) (cstE (.int 0))) (cstE (.str "program")))) (notT (truT (callE f_is_list_of (consA (binE ixD2 (slotE 0) (cstE (.int 1))) (consA (cstE (.int 1)) (consA (cstE d_MOST_FUNCTIONS) (nilA))))))))) (retS (tupE (consA (tupE (nilA)) (consA (cstE (.str "form")) (nilA))))) (skipS)) (seqS (asgS 1 false (callE f_first_wrong_form (consA (binE ixD2 (slotE 0) (cstE (.int 1))) (nilA)))) (seqS (ifS (boolT (binE isD (slotE 1) (cstE .none))) (asgS 1 false (callE f_first_wrong_end (consA (binE ixD2 (slotE 0) (cstE (.int 1))) (nilA)))) (skipS)) (retS (slotE 1))))
def f_first_wrong : Fn := runF 1 2 m_first_wrong
/-! ### is_program -/
abbrev s_is_program : Stmt := top 27
abbrev N_is_program : List Str := ["value"]
theorem sc_is_program : FnScope N_is_program ["value"] (defScope s_is_program) := ⟨rfl, rfl, rfl, by decide +kernel, rfl, by decide +kernel, by decide +kernel⟩
def m_is_program : PEnv → R Flow := retS (binE isD (callE f_first_wrong (consA (slotE 0) (nilA))) (cstE .none))
def f_is_program : Fn := runF 1 1 m_is_program
/-! ### edges_of -/
abbrev s_edges_of : Stmt := top 42
abbrev N_edges_of : List Str := ["program", "found", "name", "parameters", "blocks", "label", "steps", "end", "way", "at"]
theorem sc_edges_of : FnScope N_edges_of ["program"] (defScope s_edges_of) := ⟨rfl, rfl, rfl, by decide +kernel, rfl, by decide +kernel, by decide +kernel⟩
def m_edges_of : PEnv → R Flow := seqS (asgS 1 true (lstE (nilA))) (seqS (forS (seqI (binE ixD2 (slotE 0) (cstE (.int 1)))) (tupG [nameG 2, nameG 3, nameG 4]) (forS (seqI (slotE 4)) (tupG [nameG 5, nameG 6, nameG 7]) (forS (seqI (unE (tabIx t_WAYS) (binE ixD2 (slotE 7) (cstE (.int 0))))) (tupG [nameG 8, nameG 9]) (exprS (appE 1 (consA (tupE (consA (slotE 2) (consA (slotE 5) (consA (slotE 8) (nilA))))) (nilA))))))) (retS (slotE 1)))
def f_edges_of : Fn := runF 1 10 m_edges_of
/-! ### edges -/
abbrev s_edges : Stmt := top 41
abbrev N_edges : List Str := ["program"]
theorem sc_edges : FnScope N_edges ["program"] (defScope s_edges) := ⟨rfl, rfl, rfl, by decide +kernel, rfl, by decide +kernel, by decide +kernel⟩
def m_edges : PEnv → R Flow := seqS (ifS (notT (truT (callE f_is_program (consA (slotE 0) (nilA))))) (raiseS "InvalidProgram" (slotE 0)) (skipS)) (retS (callE f_edges_of (consA (slotE 0) (nilA))))
def f_edges : Fn := runF 1 1 m_edges
/-! ### label_place -/
abbrev s_label_place : Stmt := top 47
abbrev N_label_place : List Str := ["end", "way", "places", "other", "at"]
theorem sc_label_place : FnScope N_label_place ["end", "way"] (defScope s_label_place) := ⟨rfl, rfl, rfl, by decide +kernel, rfl, by decide +kernel, by decide +kernel⟩
def m_label_place : PEnv → R Flow := seqS (asgS 2 false (dcE [3, 4] (seqI (unE (tabIx t_WAYS) (binE ixD2 (slotE 0) (cstE (.int 0))))) (tupG [nameG 3, nameG 4]) (yesT) (slotE 3) (slotE 4))) (retS (binE ixD2 (slotE 2) (slotE 1)))
def f_label_place : Fn := runF 2 5 m_label_place
/-! ### blocks_of -/
abbrev s_blocks_of : Stmt := top 46
abbrev N_blocks_of : List Str := ["program", "name", "blocks", "function"]
theorem sc_blocks_of : FnScope N_blocks_of ["program", "name"] (defScope s_blocks_of) := ⟨rfl, rfl, rfl, by decide +kernel, rfl, by decide +kernel, by decide +kernel⟩
def m_blocks_of : PEnv → R Flow := seqS (asgS 2 false (dcE [3] (seqI (binE ixD2 (slotE 0) (cstE (.int 1)))) (nameG 3) (yesT) (binE ixD2 (slotE 3) (cstE (.int 0))) (binE ixD2 (slotE 3) (cstE (.int 2))))) (retS (binE ixD2 (slotE 2) (slotE 1)))
def f_blocks_of : Fn := runF 2 4 m_blocks_of
/-! ### first_label -/
abbrev s_first_label : Stmt := top 45
abbrev N_first_label : List Str := ["program", "name"]
theorem sc_first_label : FnScope N_first_label ["program", "name"] (defScope s_first_label) := ⟨rfl, rfl, rfl, by decide +kernel, rfl, by decide +kernel, by decide +kernel⟩
def m_first_label : PEnv → R Flow := retS (binE ixD2 (binE ixD2 (callE f_blocks_of (consA (slotE 0) (consA (slotE 1) (nilA)))) (cstE (.int 0))) (cstE (.int 0)))
def f_first_label : Fn := runF 2 2 m_first_label
/-! ### end_of -/
abbrev s_end_of : Stmt := top 44
abbrev N_end_of : List Str := ["program", "name", "label", "ends", "block"]
theorem sc_end_of : FnScope N_end_of ["program", "name", "label"] (defScope s_end_of) := ⟨rfl, rfl, rfl, by decide +kernel, rfl, by decide +kernel, by decide +kernel⟩
def m_end_of : PEnv → R Flow := seqS (asgS 3 false (dcE [4] (seqI (callE f_blocks_of (consA (slotE 0) (consA (slotE 1) (nilA))))) (nameG 4) (yesT) (binE ixD2 (slotE 4) (cstE (.int 0))) (binE ixD2 (slotE 4) (cstE (.int 2))))) (retS (binE ixD2 (slotE 3) (slotE 2)))
def f_end_of : Fn := runF 3 5 m_end_of
/-! ### led_to -/
abbrev s_led_to : Stmt := top 43
abbrev N_led_to : List Str := ["program", "edge", "name", "label", "way", "end", "at"]
theorem sc_led_to : FnScope N_led_to ["program", "edge"] (defScope s_led_to) := ⟨rfl, rfl, rfl, by decide +kernel, rfl, by decide +kernel, by decide +kernel⟩
def m_led_to : PEnv → R Flow := seqS (ifS (notT (truT (callE f_is_program (consA (slotE 0) (nilA))))) (raiseS "InvalidProgram" (slotE 0)) (skipS)) (seqS (ifS (boolT (binE notinDX (slotE 1) (callE f_edges_of (consA (slotE 0) (nilA))))) (raiseS "InvalidEdge" (slotE 1)) (skipS)) (seqS (unpS (tupG [nameG 2, nameG 3, nameG 4]) (slotE 1)) (seqS (asgS 5 false (callE f_end_of (consA (slotE 0) (consA (slotE 2) (consA (slotE 3) (nilA)))))) (seqS (ifS (boolT (binE eqD (slotE 4) (cstE (.str "call")))) (retS (tupE (consA (binE ixD2 (slotE 5) (cstE (.int 2))) (consA (callE f_first_label (consA (slotE 0) (consA (binE ixD2 (slotE 5) (cstE (.int 2))) (nilA)))) (nilA))))) (skipS)) (seqS (asgS 6 false (callE f_label_place (consA (slotE 5) (consA (slotE 4) (nilA))))) (seqS (ifS (boolT (binE isD (slotE 6) (cstE .none))) (retS (cstE .none)) (skipS)) (retS (tupE (consA (slotE 2) (consA (binE ixD2 (slotE 5) (slotE 6)) (nilA)))))))))))
def f_led_to : Fn := runF 2 7 m_led_to
/-! ### _law_hash -/
abbrev s__law_hash : Stmt := top 49
abbrev N__law_hash : List Str := ["seed", "index", "mixed"]
theorem sc__law_hash : FnScope N__law_hash ["seed", "index"] (defScope s__law_hash) := ⟨rfl, rfl, rfl, by decide +kernel, rfl, by decide +kernel, by decide +kernel⟩
def m__law_hash : PEnv → R Flow := seqS (asgS 2 false (binE modD (bltE intD (consA (binE addD (binE addD (binE addD (binE mulD (slotE 0) (cstE (.int 1140671))) (binE mulD (binE mulD (cstE (.int 27644437)) (slotE 1)) (slotE 1))) (binE mulD (cstE (.int 131)) (slotE 1))) (cstE (.int 19))) (nilA))) (cstE (.int 2147483629)))) (seqS (asgS 2 false (binE modD (bltE intD (consA (binE addD (binE addD (binE mulD (slotE 2) (slotE 2)) (binE mulD (cstE (.int 62089)) (slotE 1))) (cstE (.int 32416187))) (nilA))) (cstE (.int 2147483587)))) (retS (binE modD (bltE intD (consA (binE mulD (slotE 2) (cstE (.int 48271))) (nilA))) (cstE (.int 2147483647)))))
def f__law_hash : Fn := runF 2 3 m__law_hash
/-! ### _law_random -/
abbrev s__law_random : Stmt := top 50
abbrev N__law_random : List Str := ["generator", "bound", "drawn", "turn"]
theorem sc__law_random : FnScope N__law_random ["generator", "bound"] (defScope s__law_random) := ⟨rfl, rfl, rfl, by decide +kernel, rfl, by decide +kernel, by decide +kernel⟩
def m__law_random : PEnv → R Flow := seqS (ifS (boolT (binE gtD (binE ixD2 (slotE 0) (cstE (.int 0))) (cstE (.int 0)))) (seqS (asgS 2 false (binE modD (bltE intD (consA (binE ixD2 (slotE 0) (cstE (.int 0))) (nilA))) (slotE 1))) (seqS (setS 0 (cstE (.int 0)) (binE fdivD (binE ixD2 (slotE 0) (cstE (.int 0))) (slotE 1))) (retS (slotE 2)))) (skipS)) (seqS (asgS 2 false (cstE (.int 0))) (seqS (forS (range1I (binE addD (cstE (.int 1)) (binE fdivD (unE bitsD (slotE 1)) (cstE (.int 30))))) (nameG 3) (seqS (setS 0 (cstE (.int 2)) (binE addD (binE ixD2 (slotE 0) (cstE (.int 2))) (cstE (.int 1)))) (asgS 2 false (binE addD (binE mulD (slotE 2) (cstE (.int 2147483587))) (callE f__law_hash (consA (binE ixD2 (slotE 0) (cstE (.int 1))) (consA (binE ixD2 (slotE 0) (cstE (.int 2))) (nilA)))))))) (retS (binE modD (bltE intD (consA (slotE 2) (nilA))) (slotE 1)))))
def f__law_random : Fn := runF 2 4 m__law_random
/-! ### _law_cell -/
abbrev s__law_cell : Stmt := top 51
abbrev N__law_cell : List Str := ["script", "index"]
theorem sc__law_cell : FnScope N__law_cell ["script", "index"] (defScope s__law_cell) := ⟨rfl, rfl, rfl, by decide +kernel, rfl, by decide +kernel, by decide +kernel⟩
def m__law_cell : PEnv → R Flow := seqS (ifS (boolT (binE ltD (slotE 1) (bltE lenD (consA (slotE 0) (nilA))))) (retS (binE ixD2 (slotE 0) (slotE 1))) (skipS)) (retS (binE modD (bltE sumD (consA (slE (slotE 0) (none) (some (cstE (.int 1)))) (nilA))) (cstE (.int 1000003))))
def f__law_cell : Fn := runF 2 2 m__law_cell
/-! ### _law_generator -/
abbrev s__law_generator : Stmt := top 52
abbrev N__law_generator : List Str := ["script", "index", "seed"]
theorem sc__law_generator : FnScope N__law_generator ["script", "index"] (defScope s__law_generator) := ⟨rfl, rfl, rfl, by decide +kernel, rfl, by decide +kernel, by decide +kernel⟩
def m__law_generator : PEnv → R Flow := seqS (asgS 2 false (callE f__law_cell (consA (slotE 0) (consA (slotE 1) (nilA))))) (retS (lstE (consA (binE modD (bltE intD (consA (bltE maxD (consA (binE subD (slotE 2) (binE powD (cstE (.int 10)) (cstE (.int 18)))) (consA (cstE (.int 0)) (nilA)))) (nilA))) (binE powD (binE powD (cstE (.int 10)) (cstE (.int 60))) (cstE (.int 10)))) (consA (binE modD (bltE intD (consA (slotE 2) (nilA))) (cstE (.int 2147483647))) (consA (binE mulD (cstE (.int 1000)) (slotE 1)) (nilA))))))
def f__law_generator : Fn := runF 2 3 m__law_generator
/-! ### _law_pick -/
abbrev s__law_pick : Stmt := top 53
abbrev N__law_pick : List Str := ["generator", "things"]
theorem sc__law_pick : FnScope N__law_pick ["generator", "things"] (defScope s__law_pick) := ⟨rfl, rfl, rfl, by decide +kernel, rfl, by decide +kernel, by decide +kernel⟩
def m__law_pick : PEnv → R Flow := retS (binE ixD2 (slotE 1) (callE f__law_random (consA (slotE 0) (consA (bltE lenD (consA (slotE 1) (nilA))) (nilA)))))
def f__law_pick : Fn := runF 2 2 m__law_pick
/-! ### _law_drawn_order -/
abbrev s__law_drawn_order : Stmt := top 54
abbrev N__law_drawn_order : List Str := ["generator", "things", "left", "found"]
theorem sc__law_drawn_order : FnScope N__law_drawn_order ["generator", "things"] (defScope s__law_drawn_order) := ⟨rfl, rfl, rfl, by decide +kernel, rfl, by decide +kernel, by decide +kernel⟩
def m__law_drawn_order : PEnv → R Flow := seqS (par2S 2 true (bltE listD (consA (slotE 1) (nilA))) 3 true (lstE (nilA))) (seqS (whileGo (boolT (binE neD (slotE 2) (lstE (nilA)))) (exprS (appE 3 (consA (popAtE 2 (consA (callE f__law_random (consA (slotE 0) (consA (bltE lenD (consA (slotE 2) (nilA))) (nilA)))) (nilA))) (nilA)))) wh__law_drawn_order) (retS (slotE 3)))
def f__law_drawn_order : Fn := runF 2 4 m__law_drawn_order
/-! ### _law_number -/
abbrev s__law_number : Stmt := top 55
abbrev N__law_number : List Str := ["generator", "way"]
theorem sc__law_number : FnScope N__law_number ["generator"] (defScope s__law_number) := ⟨rfl, rfl, rfl, by decide +kernel, rfl, by decide +kernel, by decide +kernel⟩
def m__law_number : PEnv → R Flow := seqS (asgS 1 false (callE f__law_random (consA (slotE 0) (consA (cstE (.int 8)) (nilA))))) (seqS (ifS (boolT (binE ltD (slotE 1) (cstE (.int 5)))) (retS (binE ixD2 (lstE (consA (cstE (.int 0)) (consA (cstE (.int 1)) (consA (cstE (.int 2)) (consA (cstE (.int 3)) (consA (cstE (.int (-1))) (nilA))))))) (slotE 1))) (skipS)) (retS (iteE (boolT (binE ltD (slotE 1) (cstE (.int 7)))) (binE subD (callE f__law_random (consA (slotE 0) (consA (cstE (.int 9)) (nilA)))) (cstE (.int 4))) (binE subD (callE f__law_random (consA (slotE 0) (consA (binE addD (binE mulD (cstE (.int 2)) (binE powD (cstE (.int 10)) (cstE (.int 12)))) (cstE (.int 1))) (nilA)))) (binE powD (cstE (.int 10)) (cstE (.int 12)))))))
def f__law_number : Fn := runF 1 2 m__law_number
/-! ### _law_small -/
abbrev s__law_small : Stmt := top 56
abbrev N__law_small : List Str := ["generator"]
theorem sc__law_small : FnScope N__law_small ["generator"] (defScope s__law_small) := ⟨rfl, rfl, rfl, by decide +kernel, rfl, by decide +kernel, by decide +kernel⟩
def m__law_small : PEnv → R Flow := retS (callE f__law_pick (consA (slotE 0) (consA (lstE (consA (cstE (.str "a")) (consA (cstE (.str "x1")) (consA (cstE (.str "key")) (nilA))))) (nilA))))
def f__law_small : Fn := runF 1 1 m__law_small
/-! ### _law_any -/
abbrev s__law_any : Stmt := top 57
abbrev N__law_any : List Str := ["generator"]
theorem sc__law_any : FnScope N__law_any ["generator"] (defScope s__law_any) := ⟨rfl, rfl, rfl, by decide +kernel, rfl, by decide +kernel, by decide +kernel⟩
def m__law_any : PEnv → R Flow := retS (callE f__law_pick (consA (slotE 0) (consA (lstE (consA (cstE (.str "a")) (consA (cstE (.str "n")) (consA (cstE (.str "x1")) (consA (cstE (.str "total")) (consA (cstE (.str "key")) (nilA))))))) (nilA))))
def f__law_any : Fn := runF 1 1 m__law_any
/-! ### _law_drawn_step -/
abbrev s__law_drawn_step : Stmt := top 58
abbrev N__law_drawn_step : List Str := ["generator", "way", "big", "sign"]
theorem sc__law_drawn_step : FnScope N__law_drawn_step ["generator"] (defScope s__law_drawn_step) := ⟨rfl, rfl, rfl, by decide +kernel, rfl, by decide +kernel, by decide +kernel⟩
def m__law_drawn_step : PEnv → R Flow := seqS (asgS 1 false (callE f__law_random (consA (slotE 0) (consA (cstE (.int 13)) (nilA))))) (seqS (ifS (boolT (binE ltD (slotE 1) (cstE (.int 2)))) (retS (tupE (consA (cstE (.str "set")) (consA (callE f__law_any (consA (slotE 0) (nilA))) (consA (callE f__law_number (consA (slotE 0) (nilA))) (nilA)))))) (skipS)) (seqS (ifS (boolT (binE eqD (slotE 1) (cstE (.int 12)))) (retS (tupE (consA (cstE (.str "count")) (consA (binE ixD2 (lstE (consA (cstE (.int 0)) (consA (cstE (.int 1)) (consA (cstE (.int 5)) (consA (cstE (.int 999)) (nilA)))))) (callE f__law_random (consA (slotE 0) (consA (cstE (.int 4)) (nilA))))) (nilA))))) (skipS)) (seqS (ifS (boolT (binE eqD (slotE 1) (cstE (.int 2)))) (retS (tupE (consA (cstE (.str "copy")) (consA (callE f__law_small (consA (slotE 0) (nilA))) (consA (callE f__law_small (consA (slotE 0) (nilA))) (nilA)))))) (skipS)) (seqS (ifS (boolT (binE eqD (slotE 1) (cstE (.int 3)))) (retS (tupE (consA (cstE (.str "copy")) (consA (callE f__law_pick (consA (slotE 0) (consA (lstE (consA (cstE (.str "n")) (consA (cstE (.str "total")) (nilA)))) (nilA)))) (consA (callE f__law_any (consA (slotE 0) (nilA))) (nilA)))))) (skipS)) (seqS (ifS (boolT (binE ltD (slotE 1) (cstE (.int 6)))) (retS (tupE (consA (cstE (.str "read")) (consA (callE f__law_any (consA (slotE 0) (nilA))) (nilA))))) (skipS)) (seqS (ifS (boolT (binE ltD (slotE 1) (cstE (.int 8)))) (retS (tupE (consA (cstE (.str "print")) (consA (callE f__law_any (consA (slotE 0) (nilA))) (nilA))))) (skipS)) (seqS (ifS (boolT (binE eqD (slotE 1) (cstE (.int 8)))) (retS (tupE (consA (cstE (.str "deed")) (consA (callE f__law_small (consA (slotE 0) (nilA))) (consA (callE f__law_pick (consA (slotE 0) (consA (lstE (consA (cstE (.str "over")) (consA (cstE (.str "rest")) (nilA)))) (nilA)))) (consA (callE f__law_small (consA (slotE 0) (nilA))) (consA (callE f__law_small (consA (slotE 0) (nilA))) (nilA)))))))) (skipS)) (seqS (ifS (boolT (binE eqD (slotE 1) (cstE (.int 9)))) (retS (tupE (consA (cstE (.str "deed")) (consA (callE f__law_any (consA (slotE 0) (nilA))) (consA (callE f__law_pick (consA (slotE 0) (consA (lstE (consA (cstE (.str "less")) (consA (cstE (.str "same")) (nilA)))) (nilA)))) (consA (callE f__law_any (consA (slotE 0) (nilA))) (consA (callE f__law_any (consA (slotE 0) (nilA))) (nilA)))))))) (skipS)) (seqS (asgS 2 false (callE f__law_pick (consA (slotE 0) (consA (lstE (consA (cstE (.str "n")) (consA (cstE (.str "total")) (nilA)))) (nilA))))) (seqS (ifS (boolT (binE eqD (slotE 1) (cstE (.int 10)))) (retS (tupE (consA (cstE (.str "deed")) (consA (slotE 2) (consA (callE f__law_pick (consA (slotE 0) (consA (lstE (consA (cstE (.str "plus")) (consA (cstE (.str "minus")) (nilA)))) (nilA)))) (consA (callE f__law_any (consA (slotE 0) (nilA))) (consA (callE f__law_small (consA (slotE 0) (nilA))) (nilA)))))))) (skipS)) (seqS (asgS 3 false (callE f__law_pick (consA (slotE 0) (consA (lstE (consA (cstE (.str "times")) (consA (cstE (.str "over")) (consA (cstE (.str "rest")) (nilA))))) (nilA))))) (retS (tupE (consA (cstE (.str "deed")) (consA (slotE 2) (consA (slotE 3) (consA (iteE (boolT (binE eqD (slotE 3) (cstE (.str "times")))) (callE f__law_small (consA (slotE 0) (nilA))) (callE f__law_any (consA (slotE 0) (nilA)))) (consA (callE f__law_small (consA (slotE 0) (nilA))) (nilA)))))))))))))))))))
def f__law_drawn_step : Fn := runF 1 4 m__law_drawn_step
/-! ### _law_drawn_call -/
abbrev s__law_drawn_call : Stmt := top 59
abbrev N__law_drawn_call : List Str := ["generator", "called", "label", "other", "names", "end", "parameter"]
theorem sc__law_drawn_call : FnScope N__law_drawn_call ["generator", "called", "label", "other"] (defScope s__law_drawn_call) := ⟨rfl, rfl, rfl, by decide +kernel, rfl, by decide +kernel, by decide +kernel⟩
def m__law_drawn_call : PEnv → R Flow := seqS (asgS 4 false (lcE [6] (seqI (binE ixD2 (slotE 1) (cstE (.int 1)))) (nameG 6) (yesT) (iteE (boolT (binE inDX (slotE 6) (lstE (consA (cstE (.str "a")) (consA (cstE (.str "x1")) (consA (cstE (.str "key")) (nilA))))))) (callE f__law_small (consA (slotE 0) (nilA))) (callE f__law_any (consA (slotE 0) (nilA)))))) (seqS (asgS 5 false (tupE (consA (cstE (.str "call")) (consA (callE f__law_pick (consA (slotE 0) (consA (lstE (consA (cstE (.str "n")) (consA (cstE (.str "total")) (nilA)))) (nilA)))) (consA (binE ixD2 (slotE 1) (cstE (.int 0))) (consA (bltE tupleD (consA (slotE 4) (nilA))) (consA (slotE 2) (nilA)))))))) (retS (iteE (boolT (binE isD (slotE 3) (cstE .none))) (slotE 5) (binE addD (binE addD (tupE (consA (cstE (.str "try")) (nilA))) (slE (slotE 5) (some (cstE (.int 1))) (none))) (tupE (consA (callE f__law_pick (consA (slotE 0) (consA (lstE (consA (cstE (.str "n")) (consA (cstE (.str "total")) (nilA)))) (nilA)))) (consA (slotE 3) (nilA))))))))
def f__law_drawn_call : Fn := runF 4 7 m__law_drawn_call
/-! ### _law_drawn_end -/
abbrev s__law_drawn_end : Stmt := top 60
abbrev N__law_drawn_end : List Str := ["generator", "style", "labels", "at", "known", "own", "ahead", "called", "last", "near", "ways", "way", "label"]
theorem sc__law_drawn_end : FnScope N__law_drawn_end ["generator", "style", "labels", "at", "known", "own"] (defScope s__law_drawn_end) := ⟨rfl, rfl, rfl, by decide +kernel, rfl, by decide +kernel, by decide +kernel⟩
def m__law_drawn_end : PEnv → R Flow := seqS (asgS 6 false (iteE (boolT (binE eqD (slotE 1) (cstE (.int 2)))) (slotE 2) (slE (slotE 2) (some (binE addD (slotE 3) (cstE (.int 1)))) (none)))) (seqS (par2S 7 false (binE ixD2 (lstE (consA (slE (slotE 4) (some (binE addD (slotE 5) (cstE (.int 1)))) (none)) (consA (slE (slotE 4) (some (cstE (.int 1))) (none)) (consA (binE addD (slE (slotE 4) (some (cstE (.int 1))) (none)) (slotE 4)) (nilA))))) (slotE 1)) 8 false (binE eqD (binE addD (slotE 3) (cstE (.int 1))) (bltE lenD (consA (slotE 2) (nilA))))) (seqS (ifS (orT (boolT (binE eqD (slotE 6) (lstE (nilA)))) (boolT (binE ltD (callE f__law_random (consA (slotE 0) (consA (iteE (truT (slotE 8)) (cstE (.int 3)) (cstE (.int 24))) (nilA)))) (binE addD (cstE (.int 1)) (bltE intD (consA (slotE 8) (nilA))))))) (retS (tupE (consA (callE f__law_pick (consA (slotE 0) (consA (lstE (consA (cstE (.str "return")) (consA (cstE (.str "return")) (consA (cstE (.str "raise")) (nilA))))) (nilA)))) (consA (callE f__law_any (consA (slotE 0) (nilA))) (nilA))))) (skipS)) (seqS (asgS 9 false (iteE (andT (boolT (binE gtD (callE f__law_random (consA (slotE 0) (consA (cstE (.int 3)) (nilA)))) (cstE (.int 0)))) (notT (truT (slotE 8)))) (slE (slotE 2) (some (binE addD (slotE 3) (cstE (.int 1)))) (some (binE addD (slotE 3) (cstE (.int 3))))) (slotE 6))) (seqS (asgS 10 false (binE addD (lstE (consA (cstE (.str "go")) (consA (cstE (.str "test")) (consA (cstE (.str "test")) (consA (cstE (.str "test")) (consA (cstE (.str "loop")) (consA (cstE (.str "loop")) (nilA)))))))) (binE mulLD (binE mulLD (lstE (consA (cstE (.str "call")) (consA (cstE (.str "call")) (consA (cstE (.str "try")) (consA (cstE (.str "try")) (nilA)))))) (binE subD (cstE (.int 6)) (binE mulD (cstE (.int 2)) (bltE minD (consA (slotE 3) (consA (cstE (.int 2)) (nilA))))))) (bltE intD (consA (binE neD (slotE 7) (lstE (nilA))) (nilA)))))) (seqS (par2S 11 false (callE f__law_pick (consA (slotE 0) (consA (slotE 10) (nilA)))) 12 false (callE f__law_pick (consA (slotE 0) (consA (slotE 9) (nilA))))) (seqS (ifS (boolT (binE eqD (slotE 11) (cstE (.str "go")))) (retS (tupE (consA (cstE (.str "go")) (consA (slotE 12) (nilA))))) (skipS)) (seqS (ifS (boolT (binE eqD (slotE 11) (cstE (.str "test")))) (retS (tupE (consA (cstE (.str "test")) (consA (callE f__law_any (consA (slotE 0) (nilA))) (consA (slotE 12) (consA (callE f__law_pick (consA (slotE 0) (consA (slotE 6) (nilA)))) (nilA))))))) (skipS)) (seqS (ifS (boolT (binE eqD (slotE 11) (cstE (.str "loop")))) (retS (tupE (consA (cstE (.str "loop")) (consA (callE f__law_small (consA (slotE 0) (nilA))) (consA (callE f__law_pick (consA (slotE 0) (consA (slE (slotE 2) (none) (some (binE addD (slotE 3) (cstE (.int 1))))) (nilA)))) (consA (slotE 12) (nilA))))))) (skipS)) (retS (callE f__law_drawn_call (consA (slotE 0) (consA (callE f__law_pick (consA (slotE 0) (consA (slotE 7) (nilA)))) (consA (slotE 12) (consA (iteE (boolT (binE eqD (slotE 11) (cstE (.str "try")))) (callE f__law_pick (consA (slotE 0) (consA (slotE 6) (nilA)))) (cstE .none)) (nilA)))))))))))))))
def f__law_drawn_end : Fn := runF 6 13 m__law_drawn_end
/-! ### _law_drawn_block -/
abbrev s__law_drawn_block : Stmt := top 61
abbrev N__law_drawn_block : List Str := ["generator", "style", "free", "labels", "at", "known", "own", "steps", "x", "end", "turn"]
theorem sc__law_drawn_block : FnScope N__law_drawn_block ["generator", "style", "free", "labels", "at", "known", "own"] (defScope s__law_drawn_block) := ⟨rfl, rfl, rfl, by decide +kernel, rfl, by decide +kernel, by decide +kernel⟩
def m__law_drawn_block : PEnv → R Flow := seqS (asgS 7 false (lcE [10] (range1I (callE f__law_random (consA (slotE 0) (consA (cstE (.int 4)) (nilA))))) (nameG 10) (yesT) (callE f__law_drawn_step (consA (slotE 0) (nilA))))) (seqS (ifS (andT (boolT (binE eqD (slotE 1) (cstE (.int 1)))) (andT (boolT (binE eqD (slotE 4) (cstE (.int 0)))) (andT (boolT (binE gtD (slotE 6) (cstE (.int 0)))) (boolT (binE gtD (bltE lenD (consA (slotE 3) (nilA))) (cstE (.int 1))))))) (seqS (asgS 8 false (callE f__law_small (consA (slotE 0) (nilA)))) (retS (tupE (consA (binE ixD2 (slotE 3) (cstE (.int 0))) (consA (binE addD (slotE 7) (lstE (consA (tupE (consA (cstE (.str "read")) (consA (slotE 8) (nilA)))) (nilA)))) (consA (tupE (consA (cstE (.str "test")) (consA (slotE 8) (consA (binE ixD2 (slotE 3) (cstE (.int 1))) (consA (binE ixD2 (slotE 3) (cstE (.int (-1)))) (nilA)))))) (nilA))))))) (skipS)) (seqS (asgS 9 false (callE f__law_drawn_end (consA (slotE 0) (consA (slotE 1) (consA (slotE 3) (consA (slotE 4) (consA (slotE 5) (consA (slotE 6) (nilA))))))))) (seqS (ifS (orT (boolT (binE eqD (binE ixD2 (slotE 9) (cstE (.int 0))) (cstE (.str "loop")))) (andT (boolT (binE eqD (binE ixD2 (slotE 9) (cstE (.int 0))) (cstE (.str "test")))) (truT (slotE 2)))) (retS (tupE (consA (binE ixD2 (slotE 3) (slotE 4)) (consA (binE addD (slotE 7) (lstE (consA (tupE (consA (cstE (.str "read")) (consA (binE ixD2 (slotE 9) (cstE (.int 1))) (nilA)))) (nilA)))) (consA (binE addD (tupE (consA (cstE (.str "test")) (nilA))) (slE (slotE 9) (some (cstE (.int 1))) (none))) (nilA)))))) (skipS)) (retS (tupE (consA (binE ixD2 (slotE 3) (slotE 4)) (consA (slotE 7) (consA (slotE 9) (nilA)))))))))
def f__law_drawn_block : Fn := runF 7 11 m__law_drawn_block
/-! ### _law_drawn_program -/
abbrev s__law_drawn_program : Stmt := top 62
abbrev N__law_drawn_program : List Str := ["generator", "functions", "blocks", "free", "style", "known", "found", "many", "name", "own", "labels", "less", "rows", "at"]
theorem sc__law_drawn_program : FnScope N__law_drawn_program ["generator", "functions", "blocks", "free"] (defScope s__law_drawn_program) := ⟨rfl, rfl, rfl, by decide +kernel, rfl, by decide +kernel, by decide +kernel⟩
def m__law_drawn_program : PEnv → R Flow := seqS (par3S 4 false (callE f__law_random (consA (slotE 0) (consA (cstE (.int 3)) (nilA)))) 5 true (lstE (nilA)) 6 true (lstE (nilA))) (seqS (asgS 7 false (iteE (boolT (binE gtD (callE f__law_random (consA (slotE 0) (consA (cstE (.int 8)) (nilA)))) (cstE (.int 0)))) (slotE 1) (binE addD (cstE (.int 1)) (callE f__law_random (consA (slotE 0) (consA (slotE 1) (nilA))))))) (seqS (forS (seqI (slE (callE f__law_drawn_order (consA (slotE 0) (consA (lstE (consA (cstE (.str "main")) (consA (cstE (.str "f")) (consA (cstE (.str "g2")) (consA (cstE (.str "helper")) (nilA)))))) (nilA)))) (none) (some (slotE 7)))) (nameG 8) (exprS (appE 5 (consA (tupE (consA (slotE 8) (consA (slE (callE f__law_drawn_order (consA (slotE 0) (consA (lstE (consA (cstE (.str "a")) (consA (cstE (.str "n")) (consA (cstE (.str "x1")) (consA (cstE (.str "total")) (nilA)))))) (nilA)))) (none) (some (callE f__law_random (consA (slotE 0) (consA (cstE (.int 3)) (nilA)))))) (nilA)))) (nilA))))) (seqS (forS (range1I (bltE lenD (consA (frzE 5) (nilA)))) (nameG 9) (seqS (asgS 10 false (callE f__law_drawn_order (consA (slotE 0) (consA (lstE (consA (cstE (.str "b0")) (consA (cstE (.str "loop")) (consA (cstE (.str "z")) (consA (cstE (.str "out")) (consA (cstE (.str "in7")) (consA (cstE (.str "x1")) (consA (cstE (.str "body")) (consA (cstE (.str "w2")) (nilA)))))))))) (nilA))))) (seqS (asgS 11 false (binE ixD2 (lstE (consA (cstE (.int 0)) (consA (cstE (.int 0)) (consA (cstE (.int 0)) (consA (cstE (.int 1)) (consA (cstE (.int 1)) (consA (cstE (.int 1)) (consA (cstE (.int 1)) (consA (cstE (.int 2)) (consA (cstE (.int 2)) (consA (cstE (.int 2)) (consA (cstE (.int 3)) (consA (cstE (.int 9)) (nilA)))))))))))))) (callE f__law_random (consA (slotE 0) (consA (cstE (.int 12)) (nilA)))))) (seqS (asgS 10 false (slE (slotE 10) (none) (some (bltE minD (consA (slotE 2) (consA (bltE maxD (consA (iteE (boolT (binE eqD (slotE 11) (cstE (.int 9)))) (cstE (.int 1)) (cstE (.int 2))) (consA (binE subD (slotE 2) (slotE 11)) (nilA)))) (nilA))))))) (seqS (asgS 12 false (lcE [13] (range1I (bltE lenD (consA (slotE 10) (nilA)))) (nameG 13) (yesT) (callE f__law_drawn_block (consA (slotE 0) (consA (slotE 4) (consA (slotE 3) (consA (slotE 10) (consA (slotE 13) (consA (frzE 5) (consA (slotE 9) (nilA))))))))))) (exprS (appE 6 (consA (tupE (consA (binE ixD2 (binE ixD2 (frzE 5) (slotE 9)) (cstE (.int 0))) (consA (bltE listD (consA (binE ixD2 (binE ixD2 (frzE 5) (slotE 9)) (cstE (.int 1))) (nilA))) (consA (slotE 12) (nilA))))) (nilA))))))))) (retS (tupE (consA (cstE (.str "program")) (consA (frzE 6) (nilA))))))))
def f__law_drawn_program : Fn := runF 4 14 m__law_drawn_program
/-! ### _law_target -/
abbrev s__law_target : Stmt := top 63
abbrev N__law_target : List Str := ["end", "way"]
theorem sc__law_target : FnScope N__law_target ["end", "way"] (defScope s__law_target) := ⟨rfl, rfl, rfl, by decide +kernel, rfl, by decide +kernel, by decide +kernel⟩
def m__law_target : PEnv → R Flow := seqS (ifS (boolT (binE inDX (slotE 1) (lstE (consA (cstE (.str "go")) (consA (cstE (.str "yes")) (nilA)))))) (retS (iteE (boolT (binE eqD (slotE 1) (cstE (.str "go")))) (binE ixD2 (slotE 0) (cstE (.int 1))) (binE ixD2 (slotE 0) (cstE (.int 2))))) (skipS)) (seqS (ifS (boolT (binE eqD (slotE 1) (cstE (.str "no")))) (retS (binE ixD2 (slotE 0) (cstE (.int 3)))) (skipS)) (seqS (ifS (boolT (binE eqD (slotE 1) (cstE (.str "value")))) (retS (binE ixD2 (slotE 0) (cstE (.int 4)))) (skipS)) (retS (iteE (andT (boolT (binE eqD (slotE 1) (cstE (.str "fault")))) (boolT (binE eqD (binE ixD2 (slotE 0) (cstE (.int 0))) (cstE (.str "try"))))) (binE ixD2 (slotE 0) (cstE (.int 6))) (cstE .none)))))
def f__law_target : Fn := runF 2 2 m__law_target
/-! ### _law_ways -/
abbrev s__law_ways : Stmt := top 64
abbrev N__law_ways : List Str := ["end"]
theorem sc__law_ways : FnScope N__law_ways ["end"] (defScope s__law_ways) := ⟨rfl, rfl, rfl, by decide +kernel, rfl, by decide +kernel, by decide +kernel⟩
def m__law_ways : PEnv → R Flow := seqS (ifS (boolT (binE inDX (binE ixD2 (slotE 0) (cstE (.int 0))) (lstE (consA (cstE (.str "call")) (consA (cstE (.str "try")) (nilA)))))) (retS (lstE (consA (cstE (.str "call")) (consA (cstE (.str "value")) (consA (cstE (.str "fault")) (nilA)))))) (skipS)) (retS (iteE (boolT (binE eqD (binE ixD2 (slotE 0) (cstE (.int 0))) (cstE (.str "test")))) (lstE (consA (cstE (.str "yes")) (consA (cstE (.str "no")) (nilA)))) (lstE (consA (binE ixD2 (slotE 0) (cstE (.int 0))) (nilA)))))
def f__law_ways : Fn := runF 1 1 m__law_ways
/-! ### _law_refused -/
abbrev s__law_refused : Stmt := top 65
abbrev N__law_refused : List Str := ["program", "bad", "told", "error"]
theorem sc__law_refused : FnScope N__law_refused ["program", "bad"] (defScope s__law_refused) := ⟨rfl, rfl, rfl, by decide +kernel, rfl, by decide +kernel, by decide +kernel⟩
def m__law_refused : PEnv → R Flow := seqS (asgS 2 false (cstE .none)) (seqS (tryS false (exprS (callE f_led_to (consA (slotE 0) (consA (slotE 1) (nilA))))) "InvalidEdge" 3 2) (retS (binE eqD (bltE reprED (consA (slotE 2) (nilA))) (bltE reprED (consA (lstE (consA (slotE 1) (nilA))) (nilA))))))
def f__law_refused : Fn := runF 2 4 m__law_refused
/-! ### law -/
abbrev s_law : Stmt := top 66
abbrev N_law : List Str := ["script", "generator", "program", "kept", "due", "places", "name", "parameters", "blocks", "label", "steps", "end", "way", "target", "first", "told", "bads", "others", "other", "bad", "edge", "function"]
theorem sc_law : FnScope N_law ["script"] (defScope s_law) := ⟨rfl, rfl, rfl, by decide +kernel, rfl, by decide +kernel, by decide +kernel⟩
def m_law : PEnv → R Flow := seqS (asgS 1 true (callE f__law_generator (consA (slotE 0) (consA (cstE (.int 0)) (nilA))))) (seqS (asgS 2 false (callE f__law_drawn_program (consA (slotE 1) (consA (cstE (.int 4)) (consA (cstE (.int 6)) (consA (cstE (.bool false)) (nilA))))))) (seqS (par3S 3 false (bltE reprED (consA (slotE 2) (nilA))) 4 true (lstE (nilA)) 5 true (lstE (nilA))) (seqS (forS (seqI (binE ixD2 (slotE 2) (cstE (.int 1)))) (tupG [nameG 6, nameG 7, nameG 8]) (forS (seqI (slotE 8)) (tupG [nameG 9, nameG 10, nameG 11]) (forS (seqI (callE f__law_ways (consA (slotE 11) (nilA)))) (nameG 12) (seqS (exprS (appE 4 (consA (tupE (consA (slotE 6) (consA (slotE 9) (consA (slotE 12) (nilA))))) (nilA)))) (seqS (asgS 13 false (callE f__law_target (consA (slotE 11) (consA (slotE 12) (nilA))))) (seqS (asgS 14 false (lcE [21] (seqI (binE ixD2 (slotE 2) (cstE (.int 1)))) (nameG 21) (andT (boolT (binE eqD (slotE 12) (cstE (.str "call")))) (boolT (binE eqD (binE ixD2 (slotE 21) (cstE (.int 0))) (binE ixD2 (slotE 11) (cstE (.int 2)))))) (binE ixD2 (binE ixD2 (binE ixD2 (slotE 21) (cstE (.int 2))) (cstE (.int 0))) (cstE (.int 0))))) (exprS (appE 5 (consA (iteE (boolT (binE eqD (slotE 12) (cstE (.str "call")))) (tupE (consA (binE ixD2 (slotE 11) (cstE (.int 2))) (consA (binE ixD2 (slotE 14) (cstE (.int 0))) (nilA)))) (iteE (boolT (binE isD (slotE 13) (cstE .none))) (cstE .none) (tupE (consA (slotE 6) (consA (slotE 13) (nilA)))))) (nilA)))))))))) (seqS (asgS 15 true (callE f_edges (consA (slotE 2) (nilA)))) (seqS (ifS (orT (boolT (binE neD (bltE reprED (consA (slotE 15) (nilA))) (bltE reprED (consA (frzE 4) (nilA))))) (boolT (binE neD (bltE reprED (consA (lcE [20] (seqI (frzE 4)) (nameG 20) (yesT) (callE f_led_to (consA (slotE 2) (consA (slotE 20) (nilA))))) (nilA))) (bltE reprED (consA (frzE 5) (nilA)))))) (retS (cstE (.bool false))) (skipS)) (seqS (exprS (appE 15 (consA (cstE .none) (nilA)))) (seqS (ifS (orT (boolT (binE neD (callKE f_edges [0] (consA (slotE 2) (nilA))) (frzE 4))) (orT (boolT (binE neD (lcE [20] (seqI (frzE 4)) (nameG 20) (yesT) (callKE f_led_to [1, 0] (consA (slotE 20) (consA (slotE 2) (nilA))))) (frzE 5))) (boolT (binE neD (bltE reprED (consA (slotE 2) (nilA))) (slotE 3))))) (retS (cstE (.bool false))) (skipS)) (seqS (unpS (tupG [nameG 6, nameG 9, nameG 12]) (binE ixD2 (frzE 4) (callE f__law_random (consA (slotE 1) (consA (bltE lenD (consA (frzE 4) (nilA))) (nilA)))))) (seqS (asgS 16 false (lstE (consA (cstE .none) (consA (cstE (.int 0)) (consA (cstE (.str "go")) (consA (tupE (nilA)) (consA (tupE (consA (slotE 6) (consA (slotE 9) (nilA)))) (consA (lstE (consA (slotE 6) (consA (slotE 9) (consA (slotE 12) (nilA))))) (consA (tupE (consA (slotE 6) (consA (slotE 9) (consA (slotE 12) (consA (cstE (.int 0)) (nilA)))))) (nilA)))))))))) (seqS (asgS 16 false (binE addD (slotE 16) (lstE (consA (tupE (consA (slotE 6) (consA (slotE 9) (consA (cstE (.str "going")) (nilA))))) (consA (tupE (consA (slotE 9) (consA (binE addD (slotE 6) (cstE (.str "q"))) (consA (slotE 12) (nilA))))) (consA (tupE (consA (slotE 6) (consA (binE addD (slotE 9) (cstE (.str "q"))) (consA (slotE 12) (nilA))))) (consA (tupE (consA (lstE (consA (slotE 6) (nilA))) (consA (slotE 9) (consA (slotE 12) (nilA))))) (consA (tupE (consA (slotE 6) (consA (slotE 9) (consA (cstE .none) (nilA))))) (consA (cstE (.dict [])) (nilA)))))))))) (seqS (asgS 17 false (lcE [18] (seqI (lstE (consA (cstE (.str "go")) (consA (cstE (.str "yes")) (consA (cstE (.str "no")) (consA (cstE (.str "call")) (consA (cstE (.str "value")) (consA (cstE (.str "fault")) (consA (cstE (.str "return")) (consA (cstE (.str "raise")) (nilA))))))))))) (nameG 18) (boolT (binE notinDX (tupE (consA (slotE 6) (consA (slotE 9) (consA (slotE 18) (nilA))))) (frzE 4))) (slotE 18))) (retS (binE eqD (lcE [19] (seqI (binE addD (slotE 16) (lcE [18] (seqI (slotE 17)) (nameG 18) (yesT) (tupE (consA (slotE 6) (consA (slotE 9) (consA (slotE 18) (nilA)))))))) (nameG 19) (notT (truT (callE f__law_refused (consA (slotE 2) (consA (slotE 19) (nilA)))))) (slotE 19)) (lstE (nilA)))))))))))))))
def f_law : Fn := runF 1 22 m_law
section
variable {P : Program} {w : World} {K : Kf} {mg : Str → Option Value} {base : Heap} {fa ca : Str → Addr} {fd : FuncData}
theorem okG_is_whole (B : Amb P w K mg base fa ca) (F : FunD K "is_whole" "is_whole" (defArgs s_is_whole) (defBody s_is_whole) (defScope s_is_whole) [] [] (fa "is_whole") fd) (me : mg "is_whole" = some (.ref (fa "is_whole")))  :
    FnG P w K mg base (L2.CX P w) 1 (fa "is_whole") fd ["value"] (spOf ⟨K, ⟨fa, P, w⟩, ca⟩ f_is_whole) := by
  have nd : List.Nodup N_is_whole := sc_is_whole.nd
  refine def_ok (fa := fa) (ca := ca) (k := 0) (N := N_is_whole) (ps := ["value"]) (m := m_is_whole) F sc_is_whole rfl (by decide) (fun cdv A outer s H E T hr gd => ?_)
  have hu := Hu.of hr
  exact tS_one (tS_ret (e_and (e_isi rfl B.b_isinstance rfl B.b_int rfl (e_slot (i := 0) rfl (by first | exact .inl rfl | exact .inr (.inl rfl) | exact .inr (.inr rfl)))) (pe_one (e_not (e_isi rfl B.b_isinstance rfl B.b_bool rfl (e_slot (i := 0) rfl (by first | exact .inl rfl | exact .inr (.inl rfl) | exact .inr (.inr rfl))))))))
theorem ok_is_whole (B : Amb P w K mg base fa ca) (F : FunD K "is_whole" "is_whole" (defArgs s_is_whole) (defBody s_is_whole) (defScope s_is_whole) [] [] (fa "is_whole") fd) (me : mg "is_whole" = some (.ref (fa "is_whole")))  :
    DefOk P w K mg base fa ca 1 "is_whole" 1 f_is_whole :=
  ⟨⟨fd, ["value"], okG_is_whole B F me , F.kp, F.bindsN (fun _ _ _ _ _ _ us hl => match us, hl with | [_], _ => rfl), me, rfl⟩⟩
theorem okG_is_sign (B : Amb P w K mg base fa ca) (F : FunD K "is_sign" "is_sign" (defArgs s_is_sign) (defBody s_is_sign) (defScope s_is_sign) [] [] (fa "is_sign") fd) (me : mg "is_sign" = some (.ref (fa "is_sign")))  :
    FnG P w K mg base (L2.CX P w) 1 (fa "is_sign") fd ["value"] (spOf ⟨K, ⟨fa, P, w⟩, ca⟩ f_is_sign) := by
  have nd : List.Nodup N_is_sign := sc_is_sign.nd
  refine def_ok (fa := fa) (ca := ca) (k := 0) (N := N_is_sign) (ps := ["value"]) (m := m_is_sign) F sc_is_sign rfl (by decide) (fun cdv A outer s H E T hr gd => ?_)
  have hu := Hu.of hr
  exact tS_one (tS_ret (e_and (e_isi rfl B.b_isinstance rfl B.b_str rfl (e_slot (i := 0) rfl (by first | exact .inl rfl | exact .inr (.inl rfl) | exact .inr (.inr rfl)))) (pe_one (e_cmp (op_inDX hu.u65) (e_slot (i := 0) rfl (by first | exact .inl rfl | exact .inr (.inl rfl) | exact .inr (.inr rfl))) (e_glob rfl B.k_SIGNS) (by with_unfolding_all rfl)))))
theorem ok_is_sign (B : Amb P w K mg base fa ca) (F : FunD K "is_sign" "is_sign" (defArgs s_is_sign) (defBody s_is_sign) (defScope s_is_sign) [] [] (fa "is_sign") fd) (me : mg "is_sign" = some (.ref (fa "is_sign")))  :
    DefOk P w K mg base fa ca 1 "is_sign" 1 f_is_sign :=
  ⟨⟨fd, ["value"], okG_is_sign B F me , F.kp, F.bindsN (fun _ _ _ _ _ _ us hl => match us, hl with | [_], _ => rfl), me, rfl⟩⟩
theorem okG_is_tuple_of (B : Amb P w K mg base fa ca) (F : FunD K "is_tuple_of" "is_tuple_of" (defArgs s_is_tuple_of) (defBody s_is_tuple_of) (defScope s_is_tuple_of) [] [] (fa "is_tuple_of") fd) (me : mg "is_tuple_of" = some (.ref (fa "is_tuple_of")))  :
    FnG P w K mg base (L2.CX P w) 1 (fa "is_tuple_of") fd ["value", "many"] (spOf ⟨K, ⟨fa, P, w⟩, ca⟩ f_is_tuple_of) := by
  have nd : List.Nodup N_is_tuple_of := sc_is_tuple_of.nd
  refine def_ok (fa := fa) (ca := ca) (k := 0) (N := N_is_tuple_of) (ps := ["value", "many"]) (m := m_is_tuple_of) F sc_is_tuple_of rfl (by decide) (fun cdv A outer s H E T hr gd => ?_)
  have hu := Hu.of hr
  exact tS_one (tS_ret (e_and (e_isi rfl B.b_isinstance rfl B.b_tuple rfl (e_slot (i := 0) rfl (by first | exact .inl rfl | exact .inr (.inl rfl) | exact .inr (.inr rfl)))) (pe_one (e_cmp (op_eqDd hu.u64) (e_blt c_len rfl B.b_len rfl (a_cons (e_slot (i := 0) rfl (by first | exact .inl rfl | exact .inr (.inl rfl) | exact .inr (.inr rfl))) (a_nil))) (e_slot (i := 1) rfl (by first | exact .inl rfl | exact .inr (.inl rfl) | exact .inr (.inr rfl))) (nomark _)))))
theorem ok_is_tuple_of (B : Amb P w K mg base fa ca) (F : FunD K "is_tuple_of" "is_tuple_of" (defArgs s_is_tuple_of) (defBody s_is_tuple_of) (defScope s_is_tuple_of) [] [] (fa "is_tuple_of") fd) (me : mg "is_tuple_of" = some (.ref (fa "is_tuple_of")))  :
    DefOk P w K mg base fa ca 1 "is_tuple_of" 2 f_is_tuple_of :=
  ⟨⟨fd, ["value", "many"], okG_is_tuple_of B F me , F.kp, F.bindsN (fun _ _ _ _ _ _ us hl => match us, hl with | [_, _], _ => rfl), me, rfl⟩⟩
theorem okG_is_list_of (B : Amb P w K mg base fa ca) (F : FunD K "is_list_of" "is_list_of" (defArgs s_is_list_of) (defBody s_is_list_of) (defScope s_is_list_of) [] [] (fa "is_list_of") fd) (me : mg "is_list_of" = some (.ref (fa "is_list_of")))  :
    FnG P w K mg base (L2.CX P w) 1 (fa "is_list_of") fd ["value", "least", "most"] (spOf ⟨K, ⟨fa, P, w⟩, ca⟩ f_is_list_of) := by
  have nd : List.Nodup N_is_list_of := sc_is_list_of.nd
  refine def_ok (fa := fa) (ca := ca) (k := 0) (N := N_is_list_of) (ps := ["value", "least", "most"]) (m := m_is_list_of) F sc_is_list_of rfl (by decide) (fun cdv A outer s H E T hr gd => ?_)
  have hu := Hu.of hr
  exact tS_one (tS_ret (e_and (e_isi rfl B.b_isinstance rfl B.b_list rfl (e_slot (i := 0) rfl (by first | exact .inl rfl | exact .inr (.inl rfl) | exact .inr (.inr rfl)))) (pe_one (e_chain (op_leD) (op_leD) (e_slot (i := 1) rfl (by first | exact .inl rfl | exact .inr (.inl rfl) | exact .inr (.inr rfl))) (e_blt c_len rfl B.b_len rfl (a_cons (e_slot (i := 0) rfl (by first | exact .inl rfl | exact .inr (.inl rfl) | exact .inr (.inr rfl))) (a_nil))) (e_slot (i := 2) rfl (by first | exact .inl rfl | exact .inr (.inl rfl) | exact .inr (.inr rfl)))))))
theorem ok_is_list_of (B : Amb P w K mg base fa ca) (F : FunD K "is_list_of" "is_list_of" (defArgs s_is_list_of) (defBody s_is_list_of) (defScope s_is_list_of) [] [] (fa "is_list_of") fd) (me : mg "is_list_of" = some (.ref (fa "is_list_of")))  :
    DefOk P w K mg base fa ca 1 "is_list_of" 3 f_is_list_of :=
  ⟨⟨fd, ["value", "least", "most"], okG_is_list_of B F me , F.kp, F.bindsN (fun _ _ _ _ _ _ us hl => match us, hl with | [_, _, _], _ => rfl), me, rfl⟩⟩
theorem okG_are_unlike (B : Amb P w K mg base fa ca) (F : FunD K "are_unlike" "are_unlike" (defArgs s_are_unlike) (defBody s_are_unlike) (defScope s_are_unlike) [] [] (fa "are_unlike") fd) (me : mg "are_unlike" = some (.ref (fa "are_unlike")))  :
    FnG P w K mg base (L2.CX P w) 1 (fa "are_unlike") fd ["words"] (spOf ⟨K, ⟨fa, P, w⟩, ca⟩ f_are_unlike) := by
  have nd : List.Nodup N_are_unlike := sc_are_unlike.nd
  refine def_ok (fa := fa) (ca := ca) (k := 0) (N := N_are_unlike) (ps := ["words"]) (m := m_are_unlike) F sc_are_unlike rfl (by decide) (fun cdv A outer s H E T hr gd => ?_)
  have hu := Hu.of hr
  exact tS_one (tS_ret (e_cmp (op_eqDd hu.u64) (e_lenSet rfl rfl B.b_len rfl B.b_set (e_slot (i := 0) rfl (by first | exact .inl rfl | exact .inr (.inl rfl) | exact .inr (.inr rfl)))) (e_blt c_len rfl B.b_len rfl (a_cons (e_slot (i := 0) rfl (by first | exact .inl rfl | exact .inr (.inl rfl) | exact .inr (.inr rfl))) (a_nil))) (nomark _)))
theorem ok_are_unlike (B : Amb P w K mg base fa ca) (F : FunD K "are_unlike" "are_unlike" (defArgs s_are_unlike) (defBody s_are_unlike) (defScope s_are_unlike) [] [] (fa "are_unlike") fd) (me : mg "are_unlike" = some (.ref (fa "are_unlike")))  :
    DefOk P w K mg base fa ca 1 "are_unlike" 1 f_are_unlike :=
  ⟨⟨fd, ["words"], okG_are_unlike B F me , F.kp, F.bindsN (fun _ _ _ _ _ _ us hl => match us, hl with | [_], _ => rfl), me, rfl⟩⟩
theorem okG_first_word (B : Amb P w K mg base fa ca) (F : FunD K "first_word" "first_word" (defArgs s_first_word) (defBody s_first_word) (defScope s_first_word) [] [] (fa "first_word") fd) (me : mg "first_word" = some (.ref (fa "first_word")))  :
    FnG P w K mg base (L2.CX P w) 1 (fa "first_word") fd ["value"] (spOf ⟨K, ⟨fa, P, w⟩, ca⟩ f_first_word) := by
  have nd : List.Nodup N_first_word := sc_first_word.nd
  refine def_ok (fa := fa) (ca := ca) (k := 0) (N := N_first_word) (ps := ["value"]) (m := m_first_word) F sc_first_word rfl (by decide) (fun cdv A outer s H E T hr gd => ?_)
  have hu := Hu.of hr
  exact tS_seq (tS_if (PW.pt (w_and (t_tru (e_isi rfl B.b_isinstance rfl B.b_tuple rfl (e_slot (i := 0) rfl (by first | exact .inl rfl | exact .inr (.inl rfl) | exact .inr (.inr rfl)))) (fun _ => rfl)) (w_and (t_cmp (op_gtD) (e_blt c_len rfl B.b_len rfl (a_cons (e_slot (i := 0) rfl (by first | exact .inl rfl | exact .inr (.inl rfl) | exact .inr (.inr rfl))) (a_nil))) (e_cstI) (nomark _)) (pw_and1 (t_tru (e_isi rfl B.b_isinstance rfl B.b_str rfl (e_ix2 hu.one (e_slot (i := 0) rfl (by first | exact .inl rfl | exact .inr (.inl rfl) | exact .inr (.inr rfl))) (e_cstI) (fun _ _ => rfl))) (fun _ => rfl)))))) (tS_one (tS_ret (e_ix2 hu.one (e_slot (i := 0) rfl (by first | exact .inl rfl | exact .inr (.inl rfl) | exact .inr (.inr rfl))) (e_cstI) (fun _ _ => rfl)))) (tS_nil)) (tS_one (tS_ret (e_cstS)))
theorem ok_first_word (B : Amb P w K mg base fa ca) (F : FunD K "first_word" "first_word" (defArgs s_first_word) (defBody s_first_word) (defScope s_first_word) [] [] (fa "first_word") fd) (me : mg "first_word" = some (.ref (fa "first_word")))  :
    DefOk P w K mg base fa ca 1 "first_word" 1 f_first_word :=
  ⟨⟨fd, ["value"], okG_first_word B F me , F.kp, F.bindsN (fun _ _ _ _ _ _ us hl => match us, hl with | [_], _ => rfl), me, rfl⟩⟩
theorem okG_has_word_signs (B : Amb P w K mg base fa ca) (F : FunD K "has_word_signs" "has_word_signs" (defArgs s_has_word_signs) (defBody s_has_word_signs) (defScope s_has_word_signs) [] [] (fa "has_word_signs") fd) (me : mg "has_word_signs" = some (.ref (fa "has_word_signs")))  :
    FnG P w K mg base (L2.CX P w) 1 (fa "has_word_signs") fd ["text"] (spOf ⟨K, ⟨fa, P, w⟩, ca⟩ f_has_word_signs) := by
  have nd : List.Nodup N_has_word_signs := sc_has_word_signs.nd
  refine def_ok (fa := fa) (ca := ca) (k := 0) (N := N_has_word_signs) (ps := ["text"]) (m := m_has_word_signs) F sc_has_word_signs rfl (by decide) (fun cdv A outer s H E T hr gd => ?_)
  have hu := Hu.of hr
  exact tS_seq (tS_if (t_not (t_chain (op_leD) (op_leD) (e_cstI) (e_blt c_len rfl B.b_len rfl (a_cons (e_slot (i := 0) rfl (by first | exact .inl rfl | exact .inr (.inl rfl) | exact .inr (.inr rfl))) (a_nil))) (e_glob rfl B.k_MOST_LETTERS))) (tS_one (tS_ret (e_cstB))) (tS_nil)) (tS_one (tS_ret (e_and (e_isascii (e_slot (i := 0) rfl (by first | exact .inl rfl | exact .inr (.inl rfl) | exact .inr (.inr rfl)))) (e_and (e_isalnum (e_slot (i := 0) rfl (by first | exact .inl rfl | exact .inr (.inl rfl) | exact .inr (.inr rfl)))) (e_and (e_cmp (op_eqDd hu.u64) (e_slot (i := 0) rfl (by first | exact .inl rfl | exact .inr (.inl rfl) | exact .inr (.inr rfl))) (e_lower (e_slot (i := 0) rfl (by first | exact .inl rfl | exact .inr (.inl rfl) | exact .inr (.inr rfl)))) (nomark _)) (pe_one (e_isalpha (e_ix2 hu.one (e_slot (i := 0) rfl (by first | exact .inl rfl | exact .inr (.inl rfl) | exact .inr (.inr rfl))) (e_cstI) (fun _ _ => rfl)))))))))
theorem ok_has_word_signs (B : Amb P w K mg base fa ca) (F : FunD K "has_word_signs" "has_word_signs" (defArgs s_has_word_signs) (defBody s_has_word_signs) (defScope s_has_word_signs) [] [] (fa "has_word_signs") fd) (me : mg "has_word_signs" = some (.ref (fa "has_word_signs")))  :
    DefOk P w K mg base fa ca 1 "has_word_signs" 1 f_has_word_signs :=
  ⟨⟨fd, ["text"], okG_has_word_signs B F me , F.kp, F.bindsN (fun _ _ _ _ _ _ us hl => match us, hl with | [_], _ => rfl), me, rfl⟩⟩
theorem okG_is_word (B : Amb P w K mg base fa ca) (F : FunD K "is_word" "is_word" (defArgs s_is_word) (defBody s_is_word) (defScope s_is_word) [] [] (fa "is_word") fd) (me : mg "is_word" = some (.ref (fa "is_word"))) (D_has_word_signs : DefOk P w K mg base fa ca 1 "has_word_signs" 1 f_has_word_signs) :
    FnG P w K mg base (L2.CX P w) 2 (fa "is_word") fd ["value"] (spOf ⟨K, ⟨fa, P, w⟩, ca⟩ f_is_word) := by
  have nd : List.Nodup N_is_word := sc_is_word.nd
  refine def_ok (fa := fa) (ca := ca) (k := 1) (N := N_is_word) (ps := ["value"]) (m := m_is_word) F sc_is_word rfl (by decide) (fun cdv A outer s H E T hr gd => ?_)
  have hu := Hu.of hr
  exact tS_one (tS_ret (e_and (e_isi rfl B.b_isinstance rfl B.b_str rfl (e_slot (i := 0) rfl (by first | exact .inl rfl | exact .inr (.inl rfl) | exact .inr (.inr rfl)))) (e_and (e_callD D_has_word_signs (hr.mono (by decide)) gd rfl hp_of (a_cons (e_slot (i := 0) rfl (by first | exact .inl rfl | exact .inr (.inl rfl) | exact .inr (.inr rfl))) (a_nil))) (pe_one (e_cmp (op_notinDX hu.u65) (e_slot (i := 0) rfl (by first | exact .inl rfl | exact .inr (.inl rfl) | exact .inr (.inr rfl))) (e_glob rfl B.k_RESERVED) (by with_unfolding_all rfl))))))
theorem ok_is_word (B : Amb P w K mg base fa ca) (F : FunD K "is_word" "is_word" (defArgs s_is_word) (defBody s_is_word) (defScope s_is_word) [] [] (fa "is_word") fd) (me : mg "is_word" = some (.ref (fa "is_word"))) (D_has_word_signs : DefOk P w K mg base fa ca 1 "has_word_signs" 1 f_has_word_signs) :
    DefOk P w K mg base fa ca 2 "is_word" 1 f_is_word :=
  ⟨⟨fd, ["value"], okG_is_word B F me D_has_word_signs, F.kp, F.bindsN (fun _ _ _ _ _ _ us hl => match us, hl with | [_], _ => rfl), me, rfl⟩⟩
theorem okG_are_names (B : Amb P w K mg base fa ca) (F : FunD K "are_names" "are_names" (defArgs s_are_names) (defBody s_are_names) (defScope s_are_names) [] [] (fa "are_names") fd) (me : mg "are_names" = some (.ref (fa "are_names"))) (D_is_word : DefOk P w K mg base fa ca 2 "is_word" 1 f_is_word) :
    FnG P w K mg base (L2.CX P w) 3 (fa "are_names") fd ["value"] (spOf ⟨K, ⟨fa, P, w⟩, ca⟩ f_are_names) := by
  have nd : List.Nodup N_are_names := sc_are_names.nd
  refine def_ok (fa := fa) (ca := ca) (k := 2) (N := N_are_names) (ps := ["value"]) (m := m_are_names) F sc_are_names rfl (by decide) (fun cdv A outer s H E T hr gd => ?_)
  have hu := Hu.of hr
  exact tS_seq (tS_if (PW.pt (w_or (t_not (t_tru (e_isi rfl B.b_isinstance rfl B.b_tuple rfl (e_slot (i := 0) rfl (by first | exact .inl rfl | exact .inr (.inl rfl) | exact .inr (.inr rfl)))) (fun _ => rfl))) (pw_or1 (t_cmp (op_gtD) (e_blt c_len rfl B.b_len rfl (a_cons (e_slot (i := 0) rfl (by first | exact .inl rfl | exact .inr (.inl rfl) | exact .inr (.inr rfl))) (a_nil))) (e_glob rfl B.k_MOST_PARAMETERS) (nomark _))))) (tS_one (tS_ret (e_cstB))) (tS_nil)) (tS_one (tS_ret (e_blt (c_all rfl) rfl B.b_all rfl (a_cons (e_lc (own := [("name", 1)]) rfl nd (i_seq (e_slot (i := 0) rfl (by first | exact .inl rfl | exact .inr (.inl rfl) | exact .inr (.inr rfl)))) (blkOk_by (N := N_are_names) (sc := defScope s_are_names) (own := [("name", 1)]) (by decide +kernel)) (fun _ _ _ _ _ => g_name (i := 1) nd rfl (by first | exact .inl rfl | exact .inr rfl)) (fun _ _ _ _ _ => ts_yes) (fun _ _ _ _ _ => e_callD D_is_word (hr.mono (by decide)) gd rfl passB (a_cons (e_slot (i := 1) rfl (by first | exact .inl rfl | exact .inr (.inl rfl) | exact .inr (.inr rfl))) (a_nil)))) (a_nil)))))
theorem ok_are_names (B : Amb P w K mg base fa ca) (F : FunD K "are_names" "are_names" (defArgs s_are_names) (defBody s_are_names) (defScope s_are_names) [] [] (fa "are_names") fd) (me : mg "are_names" = some (.ref (fa "are_names"))) (D_is_word : DefOk P w K mg base fa ca 2 "is_word" 1 f_is_word) :
    DefOk P w K mg base fa ca 3 "are_names" 1 f_are_names :=
  ⟨⟨fd, ["value"], okG_are_names B F me D_is_word, F.kp, F.bindsN (fun _ _ _ _ _ _ us hl => match us, hl with | [_], _ => rfl), me, rfl⟩⟩
theorem okG_is_part (B : Amb P w K mg base fa ca) (F : FunD K "is_part" "is_part" (defArgs s_is_part) (defBody s_is_part) (defScope s_is_part) [] [] (fa "is_part") fd) (me : mg "is_part" = some (.ref (fa "is_part"))) (D_is_word : DefOk P w K mg base fa ca 2 "is_word" 1 f_is_word) (D_are_names : DefOk P w K mg base fa ca 3 "are_names" 1 f_are_names) (D_is_sign : DefOk P w K mg base fa ca 1 "is_sign" 1 f_is_sign) (D_is_whole : DefOk P w K mg base fa ca 1 "is_whole" 1 f_is_whole) :
    FnG P w K mg base (L2.CX P w) 4 (fa "is_part") fd ["value", "kind"] (spOf ⟨K, ⟨fa, P, w⟩, ca⟩ f_is_part) := by
  have nd : List.Nodup N_is_part := sc_is_part.nd
  refine def_ok (fa := fa) (ca := ca) (k := 3) (N := N_is_part) (ps := ["value", "kind"]) (m := m_is_part) F sc_is_part rfl (by decide) (fun cdv A outer s H E T hr gd => ?_)
  have hu := Hu.of hr
  exact tS_seq (tS_if (t_cmp (op_eqDd hu.u64) (e_slot (i := 1) rfl (by first | exact .inl rfl | exact .inr (.inl rfl) | exact .inr (.inr rfl))) (e_cstS) (nomark _)) (tS_one (tS_ret (e_callD D_is_whole (hr.mono (by decide)) gd rfl hp_of (a_cons (e_slot (i := 0) rfl (by first | exact .inl rfl | exact .inr (.inl rfl) | exact .inr (.inr rfl))) (a_nil))))) (tS_nil)) (tS_seq (tS_if (t_cmp (op_eqDd hu.u64) (e_slot (i := 1) rfl (by first | exact .inl rfl | exact .inr (.inl rfl) | exact .inr (.inr rfl))) (e_cstS) (nomark _)) (tS_one (tS_ret (e_and (e_callD D_is_whole (hr.mono (by decide)) gd rfl hp_of (a_cons (e_slot (i := 0) rfl (by first | exact .inl rfl | exact .inr (.inl rfl) | exact .inr (.inr rfl))) (a_nil))) (pe_one (e_chain (op_leD) (op_leD) (e_cstI) (e_slot (i := 0) rfl (by first | exact .inl rfl | exact .inr (.inl rfl) | exact .inr (.inr rfl))) (e_glob rfl B.k_GREATEST_COUNTER)))))) (tS_nil)) (tS_seq (tS_if (t_cmp (op_eqDd hu.u64) (e_slot (i := 1) rfl (by first | exact .inl rfl | exact .inr (.inl rfl) | exact .inr (.inr rfl))) (e_cstS) (nomark _)) (tS_one (tS_ret (e_callD D_is_sign (hr.mono (by decide)) gd rfl hp_of (a_cons (e_slot (i := 0) rfl (by first | exact .inl rfl | exact .inr (.inl rfl) | exact .inr (.inr rfl))) (a_nil))))) (tS_nil)) (tS_seq (tS_if (t_cmp (op_eqDd hu.u64) (e_slot (i := 1) rfl (by first | exact .inl rfl | exact .inr (.inl rfl) | exact .inr (.inr rfl))) (e_cstS) (nomark _)) (tS_one (tS_ret (e_callD D_are_names (hr.mono (by decide)) gd rfl hp_of (a_cons (e_slot (i := 0) rfl (by first | exact .inl rfl | exact .inr (.inl rfl) | exact .inr (.inr rfl))) (a_nil))))) (tS_nil)) (tS_one (tS_ret (e_callD D_is_word (hr.mono (by decide)) gd rfl hp_of (a_cons (e_slot (i := 0) rfl (by first | exact .inl rfl | exact .inr (.inl rfl) | exact .inr (.inr rfl))) (a_nil))))))))
theorem ok_is_part (B : Amb P w K mg base fa ca) (F : FunD K "is_part" "is_part" (defArgs s_is_part) (defBody s_is_part) (defScope s_is_part) [] [] (fa "is_part") fd) (me : mg "is_part" = some (.ref (fa "is_part"))) (D_is_word : DefOk P w K mg base fa ca 2 "is_word" 1 f_is_word) (D_are_names : DefOk P w K mg base fa ca 3 "are_names" 1 f_are_names) (D_is_sign : DefOk P w K mg base fa ca 1 "is_sign" 1 f_is_sign) (D_is_whole : DefOk P w K mg base fa ca 1 "is_whole" 1 f_is_whole) :
    DefOk P w K mg base fa ca 4 "is_part" 2 f_is_part :=
  ⟨⟨fd, ["value", "kind"], okG_is_part B F me D_is_word D_are_names D_is_sign D_is_whole, F.kp, F.bindsN (fun _ _ _ _ _ _ us hl => match us, hl with | [_, _], _ => rfl), me, rfl⟩⟩
theorem okG_has_parts (B : Amb P w K mg base fa ca) (F : FunD K "has_parts" "has_parts" (defArgs s_has_parts) (defBody s_has_parts) (defScope s_has_parts) [] [] (fa "has_parts") fd) (me : mg "has_parts" = some (.ref (fa "has_parts"))) (D_is_part : DefOk P w K mg base fa ca 4 "is_part" 2 f_is_part) :
    FnG P w K mg base (L2.CX P w) 5 (fa "has_parts") fd ["value", "kinds", "is_part"] (spOf ⟨K, ⟨fa, P, w⟩, ca⟩ f_has_parts) := by
  have nd : List.Nodup N_has_parts := sc_has_parts.nd
  refine def_ok (fa := fa) (ca := ca) (k := 4) (N := N_has_parts) (ps := ["value", "kinds", "is_part"]) (m := m_has_parts) F sc_has_parts rfl (by decide) (fun cdv A outer s H E T hr gd => ?_)
  have hu := Hu.of hr
  exact tS_seq (tS_if (t_cmp (op_neDd hu.u64) (e_blt c_len rfl B.b_len rfl (a_cons (e_slot (i := 0) rfl (by first | exact .inl rfl | exact .inr (.inl rfl) | exact .inr (.inr rfl))) (a_nil))) (e_bin op_addD (e_blt c_len rfl B.b_len rfl (a_cons (e_slot (i := 1) rfl (by first | exact .inl rfl | exact .inr (.inl rfl) | exact .inr (.inr rfl))) (a_nil))) (e_cstI)) (nomark _)) (tS_one (tS_ret (e_cstB))) (tS_nil)) (tS_one (tS_ret (e_blt (c_all rfl) rfl B.b_all rfl (a_cons (e_lc (own := [("part", 3), ("kind", 4)]) rfl nd (i_zip rfl B.b_zip (e_sl (e_slot (i := 0) rfl (by first | exact .inl rfl | exact .inr (.inl rfl) | exact .inr (.inr rfl))) (.som (e_cstI)) (.non)) (e_slot (i := 1) rfl (by first | exact .inl rfl | exact .inr (.inl rfl) | exact .inr (.inr rfl)))) (blkOk_by (N := N_has_parts) (sc := defScope s_has_parts) (own := [("part", 3), ("kind", 4)]) (by decide +kernel)) (fun _ _ _ _ _ => g_tup rfl (gs_cons (g_name (i := 3) nd rfl (by first | exact .inl rfl | exact .inr rfl)) (gs_cons (g_name (i := 4) nd rfl (by first | exact .inl rfl | exact .inr rfl)) (gs_nil)))) (fun _ _ _ _ _ => ts_yes) (fun _ _ _ _ _ => e_callL (k := 4) (AL_cons D_is_part (by decide) AL_nil) (hr.mono (by decide)) gd rfl (by first | exact .inl rfl | exact .inr (.inl rfl) | exact .inr (.inr rfl)) passB (a_cons (e_slot (i := 3) rfl (by first | exact .inl rfl | exact .inr (.inl rfl) | exact .inr (.inr rfl))) (a_cons (e_slot (i := 4) rfl (by first | exact .inl rfl | exact .inr (.inl rfl) | exact .inr (.inr rfl))) (a_nil))))) (a_nil)))))
theorem ok_has_parts (B : Amb P w K mg base fa ca) (F : FunD K "has_parts" "has_parts" (defArgs s_has_parts) (defBody s_has_parts) (defScope s_has_parts) [] [] (fa "has_parts") fd) (me : mg "has_parts" = some (.ref (fa "has_parts"))) (D_is_part : DefOk P w K mg base fa ca 4 "is_part" 2 f_is_part) :
    DefOk P w K mg base fa ca 5 "has_parts" 3 f_has_parts :=
  ⟨⟨fd, ["value", "kinds", "is_part"], okG_has_parts B F me D_is_part, F.kp, F.bindsN (fun _ _ _ _ _ _ us hl => match us, hl with | [_, _, _], _ => rfl), me, rfl⟩⟩
theorem okG_are_parameters (B : Amb P w K mg base fa ca) (F : FunD K "are_parameters" "are_parameters" (defArgs s_are_parameters) (defBody s_are_parameters) (defScope s_are_parameters) [] [] (fa "are_parameters") fd) (me : mg "are_parameters" = some (.ref (fa "are_parameters"))) (D_are_unlike : DefOk P w K mg base fa ca 1 "are_unlike" 1 f_are_unlike) (D_is_word : DefOk P w K mg base fa ca 2 "is_word" 1 f_is_word) (D_is_list_of : DefOk P w K mg base fa ca 1 "is_list_of" 3 f_is_list_of) :
    FnG P w K mg base (L2.CX P w) 3 (fa "are_parameters") fd ["value", "is_name"] (spOf ⟨K, ⟨fa, P, w⟩, ca⟩ f_are_parameters) := by
  have nd : List.Nodup N_are_parameters := sc_are_parameters.nd
  refine def_ok (fa := fa) (ca := ca) (k := 2) (N := N_are_parameters) (ps := ["value", "is_name"]) (m := m_are_parameters) F sc_are_parameters rfl (by decide) (fun cdv A outer s H E T hr gd => ?_)
  have hu := Hu.of hr
  exact tS_seq (tS_if (t_not (t_tru (e_callD D_is_list_of (hr.mono (by decide)) gd rfl hp_of (a_cons (e_slot (i := 0) rfl (by first | exact .inl rfl | exact .inr (.inl rfl) | exact .inr (.inr rfl))) (a_cons (e_cstI) (a_cons (e_glob rfl B.k_MOST_PARAMETERS) (a_nil))))) (fun _ => rfl))) (tS_one (tS_ret (e_cstB))) (tS_nil)) (tS_one (tS_ret (e_and (e_blt (c_all rfl) rfl B.b_all rfl (a_cons (e_lc (own := [("name", 2)]) rfl nd (i_seq (e_slot (i := 0) rfl (by first | exact .inl rfl | exact .inr (.inl rfl) | exact .inr (.inr rfl)))) (blkOk_by (N := N_are_parameters) (sc := defScope s_are_parameters) (own := [("name", 2)]) (by decide +kernel)) (fun _ _ _ _ _ => g_name (i := 2) nd rfl (by first | exact .inl rfl | exact .inr rfl)) (fun _ _ _ _ _ => ts_yes) (fun _ _ _ _ _ => e_callL (k := 2) (AL_cons D_is_word (by decide) AL_nil) (hr.mono (by decide)) gd rfl (by first | exact .inl rfl | exact .inr (.inl rfl) | exact .inr (.inr rfl)) passB (a_cons (e_slot (i := 2) rfl (by first | exact .inl rfl | exact .inr (.inl rfl) | exact .inr (.inr rfl))) (a_nil)))) (a_nil))) (pe_one (e_callD D_are_unlike (hr.mono (by decide)) gd rfl hp_of (a_cons (e_slot (i := 0) rfl (by first | exact .inl rfl | exact .inr (.inl rfl) | exact .inr (.inr rfl))) (a_nil)))))))
theorem ok_are_parameters (B : Amb P w K mg base fa ca) (F : FunD K "are_parameters" "are_parameters" (defArgs s_are_parameters) (defBody s_are_parameters) (defScope s_are_parameters) [] [] (fa "are_parameters") fd) (me : mg "are_parameters" = some (.ref (fa "are_parameters"))) (D_are_unlike : DefOk P w K mg base fa ca 1 "are_unlike" 1 f_are_unlike) (D_is_word : DefOk P w K mg base fa ca 2 "is_word" 1 f_is_word) (D_is_list_of : DefOk P w K mg base fa ca 1 "is_list_of" 3 f_is_list_of) :
    DefOk P w K mg base fa ca 3 "are_parameters" 2 f_are_parameters :=
  ⟨⟨fd, ["value", "is_name"], okG_are_parameters B F me D_are_unlike D_is_word D_is_list_of, F.kp, F.bindsN (fun _ _ _ _ _ _ us hl => match us, hl with | [_, _], _ => rfl), me, rfl⟩⟩
theorem okG_labels_of (B : Amb P w K mg base fa ca) (F : FunD K "labels_of" "labels_of" (defArgs s_labels_of) (defBody s_labels_of) (defScope s_labels_of) [] [] (fa "labels_of") fd) (me : mg "labels_of" = some (.ref (fa "labels_of")))  :
    FnG P w K mg base (L2.CX P w) 1 (fa "labels_of") fd ["end"] (spOf ⟨K, ⟨fa, P, w⟩, ca⟩ f_labels_of) := by
  have nd : List.Nodup N_labels_of := sc_labels_of.nd
  refine def_ok (fa := fa) (ca := ca) (k := 0) (N := N_labels_of) (ps := ["end"]) (m := m_labels_of) F sc_labels_of rfl (by decide) (fun cdv A outer s H E T hr gd => ?_)
  have hu := Hu.of hr
  exact tS_one (tS_ret (e_lc (own := [("way", 1), ("at", 2)]) rfl nd (i_seq (e_kix (a := ca "WAYS") rfl B.g_WAYS B.t_WAYS (e_ix2 hu.one (e_slot (i := 0) rfl (by first | exact .inl rfl | exact .inr (.inl rfl) | exact .inr (.inr rfl))) (e_cstI) (fun _ _ => rfl)) (fun _ _ => rfl))) (blkOk_by (N := N_labels_of) (sc := defScope s_labels_of) (own := [("way", 1), ("at", 2)]) (by decide +kernel)) (fun _ _ _ _ _ => g_tup rfl (gs_cons (g_name (i := 1) nd rfl (by first | exact .inl rfl | exact .inr rfl)) (gs_cons (g_name (i := 2) nd rfl (by first | exact .inl rfl | exact .inr rfl)) (gs_nil)))) (fun _ _ _ _ _ => ts_one (t_cmp (op_isnotDd) (e_slot (i := 2) rfl (by first | exact .inl rfl | exact .inr (.inl rfl) | exact .inr (.inr rfl))) (e_cstN) (nomark _))) (fun _ _ _ _ _ => e_ix2 hu.one (e_slot (i := 0) rfl (by first | exact .inl rfl | exact .inr (.inl rfl) | exact .inr (.inr rfl))) (e_slot (i := 2) rfl (by first | exact .inl rfl | exact .inr (.inl rfl) | exact .inr (.inr rfl))) (fun _ _ => rfl))))
theorem ok_labels_of (B : Amb P w K mg base fa ca) (F : FunD K "labels_of" "labels_of" (defArgs s_labels_of) (defBody s_labels_of) (defScope s_labels_of) [] [] (fa "labels_of") fd) (me : mg "labels_of" = some (.ref (fa "labels_of")))  :
    DefOk P w K mg base fa ca 1 "labels_of" 1 f_labels_of :=
  ⟨⟨fd, ["end"], okG_labels_of B F me , F.kp, F.bindsN (fun _ _ _ _ _ _ us hl => match us, hl with | [_], _ => rfl), me, rfl⟩⟩
theorem okG_why_unfit (B : Amb P w K mg base fa ca) (F : FunD K "why_unfit" "why_unfit" (defArgs s_why_unfit) (defBody s_why_unfit) (defScope s_why_unfit) [] [] (fa "why_unfit") fd) (me : mg "why_unfit" = some (.ref (fa "why_unfit"))) (D_labels_of : DefOk P w K mg base fa ca 1 "labels_of" 1 f_labels_of) :
    FnG P w K mg base (L2.CX P w) 2 (fa "why_unfit") fd ["end", "labels", "many"] (spOf ⟨K, ⟨fa, P, w⟩, ca⟩ f_why_unfit) := by
  have nd : List.Nodup N_why_unfit := sc_why_unfit.nd
  refine def_ok (fa := fa) (ca := ca) (k := 1) (N := N_why_unfit) (ps := ["end", "labels", "many"]) (m := m_why_unfit) F sc_why_unfit rfl (by decide) (fun cdv A outer s H E T hr gd => ?_)
  have hu := Hu.of hr
  exact tS_seq (tS_for hpo_of rfl (i_seq (e_callD D_labels_of (hr.mono (by decide)) gd rfl hp_of (a_cons (e_slot (i := 0) rfl (by first | exact .inl rfl | exact .inr (.inl rfl) | exact .inr (.inr rfl))) (a_nil)))) (g_name (i := 3) nd rfl (by first | exact .inl rfl | exact .inr rfl)) (tS_one (tS_if (t_cmp (op_notinDX hu.u65) (e_slot (i := 3) rfl (by first | exact .inl rfl | exact .inr (.inl rfl) | exact .inr (.inr rfl))) (e_slot (i := 1) rfl (by first | exact .inl rfl | exact .inr (.inl rfl) | exact .inr (.inr rfl))) (by with_unfolding_all rfl)) (tS_one (tS_ret (e_cstS))) (tS_nil)))) (tS_seq (tS_if (t_cmp (op_notinDX hu.u65) (e_ix2 hu.one (e_slot (i := 0) rfl (by first | exact .inl rfl | exact .inr (.inl rfl) | exact .inr (.inr rfl))) (e_cstI) (fun _ _ => rfl)) (e_tup (a_cons (e_cstS) (a_cons (e_cstS) (a_nil)))) (by with_unfolding_all rfl)) (tS_one (tS_ret (e_cstN))) (tS_nil)) (tS_seq (tS_if (t_cmp (op_notinDX hu.u65) (e_ix2 hu.one (e_slot (i := 0) rfl (by first | exact .inl rfl | exact .inr (.inl rfl) | exact .inr (.inr rfl))) (e_cstI) (fun _ _ => rfl)) (e_slot (i := 2) rfl (by first | exact .inl rfl | exact .inr (.inl rfl) | exact .inr (.inr rfl))) (by with_unfolding_all rfl)) (tS_one (tS_ret (e_cstS))) (tS_nil)) (tS_seq (tS_if (t_cmp (op_neDd hu.u64) (e_blt c_len rfl B.b_len rfl (a_cons (e_ix2 hu.one (e_slot (i := 0) rfl (by first | exact .inl rfl | exact .inr (.inl rfl) | exact .inr (.inr rfl))) (e_cstI) (fun _ _ => rfl)) (a_nil))) (e_ix2 hu.one (e_slot (i := 2) rfl (by first | exact .inl rfl | exact .inr (.inl rfl) | exact .inr (.inr rfl))) (e_ix2 hu.one (e_slot (i := 0) rfl (by first | exact .inl rfl | exact .inr (.inl rfl) | exact .inr (.inr rfl))) (e_cstI) (fun _ _ => rfl)) (fun _ _ => rfl)) (nomark _)) (tS_one (tS_ret (e_cstS))) (tS_nil)) (tS_one (tS_ret (e_cstN))))))
theorem ok_why_unfit (B : Amb P w K mg base fa ca) (F : FunD K "why_unfit" "why_unfit" (defArgs s_why_unfit) (defBody s_why_unfit) (defScope s_why_unfit) [] [] (fa "why_unfit") fd) (me : mg "why_unfit" = some (.ref (fa "why_unfit"))) (D_labels_of : DefOk P w K mg base fa ca 1 "labels_of" 1 f_labels_of) :
    DefOk P w K mg base fa ca 2 "why_unfit" 3 f_why_unfit :=
  ⟨⟨fd, ["end", "labels", "many"], okG_why_unfit B F me D_labels_of, F.kp, F.bindsN (fun _ _ _ _ _ _ us hl => match us, hl with | [_, _, _], _ => rfl), me, rfl⟩⟩
theorem okG_first_wrong_end (B : Amb P w K mg base fa ca) (F : FunD K "first_wrong_end" "first_wrong_end" (defArgs s_first_wrong_end) (defBody s_first_wrong_end) (defScope s_first_wrong_end) [] [] (fa "first_wrong_end") fd) (me : mg "first_wrong_end" = some (.ref (fa "first_wrong_end"))) (D_why_unfit : DefOk P w K mg base fa ca 2 "why_unfit" 3 f_why_unfit) :
    FnG P w K mg base (L2.CX P w) 3 (fa "first_wrong_end") fd ["functions"] (spOf ⟨K, ⟨fa, P, w⟩, ca⟩ f_first_wrong_end) := by
  have nd : List.Nodup N_first_wrong_end := sc_first_wrong_end.nd
  refine def_ok (fa := fa) (ca := ca) (k := 2) (N := N_first_wrong_end) (ps := ["functions"]) (m := m_first_wrong_end) F sc_first_wrong_end rfl (by decide) (fun cdv A outer s H E T hr gd => ?_)
  have hu := Hu.of hr
  exact tS_seq (tS_asgDc (i := 2) (o := false) (own := [("function", 1)]) rfl nd rfl rfl (swD rfl rfl rfl (by decide +kernel)) (i_seq (e_slot (i := 0) rfl (by first | exact .inl rfl | exact .inr (.inl rfl) | exact .inr (.inr rfl)))) (blkOk_by (N := N_first_wrong_end) (sc := defScope s_first_wrong_end) (own := [("function", 1)]) (by decide +kernel)) (fun _ _ _ _ _ => g_name (i := 1) nd rfl (by first | exact .inl rfl | exact .inr rfl)) (fun _ _ _ _ _ => ts_yes) (fun _ _ _ _ _ => e_ix2 hu.one (e_slot (i := 1) rfl (by first | exact .inl rfl | exact .inr (.inl rfl) | exact .inr (.inr rfl))) (e_cstI) (fun _ _ => rfl)) (fun _ _ _ _ _ => e_blt c_len rfl B.b_len rfl (a_cons (e_ix2 hu.one (e_slot (i := 1) rfl (by first | exact .inl rfl | exact .inr (.inl rfl) | exact .inr (.inr rfl))) (e_cstI) (fun _ _ => rfl)) (a_nil)))) (tS_seq (tS_for hpo_of rfl (i_enum rfl B.b_enumerate (e_slot (i := 0) rfl (by first | exact .inl rfl | exact .inr (.inl rfl) | exact .inr (.inr rfl)))) (g_tup rfl (gs_cons (g_name (i := 3) nd rfl (by first | exact .inl rfl | exact .inr rfl)) (gs_cons (g_name (i := 1) nd rfl (by first | exact .inl rfl | exact .inr rfl)) (gs_nil)))) (tS_seq (tS_asgDc (i := 5) (o := false) (own := [("block", 4)]) rfl nd rfl rfl (swD rfl rfl rfl (by decide +kernel)) (i_seq (e_ix2 hu.one (e_slot (i := 1) rfl (by first | exact .inl rfl | exact .inr (.inl rfl) | exact .inr (.inr rfl))) (e_cstI) (fun _ _ => rfl))) (blkOk_by (N := N_first_wrong_end) (sc := defScope s_first_wrong_end) (own := [("block", 4)]) (by decide +kernel)) (fun _ _ _ _ _ => g_name (i := 4) nd rfl (by first | exact .inl rfl | exact .inr rfl)) (fun _ _ _ _ _ => ts_yes) (fun _ _ _ _ _ => e_ix2 hu.one (e_slot (i := 4) rfl (by first | exact .inl rfl | exact .inr (.inl rfl) | exact .inr (.inr rfl))) (e_cstI) (fun _ _ => rfl)) (fun _ _ _ _ _ => e_cstB)) (tS_one (tS_for hpo_of rfl (i_enum rfl B.b_enumerate (e_ix2 hu.one (e_slot (i := 1) rfl (by first | exact .inl rfl | exact .inr (.inl rfl) | exact .inr (.inr rfl))) (e_cstI) (fun _ _ => rfl))) (g_tup rfl (gs_cons (g_name (i := 6) nd rfl (by first | exact .inl rfl | exact .inr rfl)) (gs_cons (g_name (i := 4) nd rfl (by first | exact .inl rfl | exact .inr rfl)) (gs_nil)))) (tS_seq (tS_unp (e_slot (i := 4) rfl (by first | exact .inl rfl | exact .inr (.inl rfl) | exact .inr (.inr rfl))) (g_tup rfl (gs_cons (g_name (i := 7) nd rfl (by first | exact .inl rfl | exact .inr rfl)) (gs_cons (g_name (i := 8) nd rfl (by first | exact .inl rfl | exact .inr rfl)) (gs_cons (g_name (i := 9) nd rfl (by first | exact .inl rfl | exact .inr rfl)) (gs_nil)))))) (tS_seq (tS_asg (i := 10) (own := false) nd rfl (by first | exact .inl rfl | exact .inr rfl) (e_callD D_why_unfit (hr.mono (by decide)) gd rfl hp_of (a_cons (e_slot (i := 9) rfl (by first | exact .inl rfl | exact .inr (.inl rfl) | exact .inr (.inr rfl))) (a_cons (e_slot (i := 5) rfl (by first | exact .inl rfl | exact .inr (.inl rfl) | exact .inr (.inr rfl))) (a_cons (e_slot (i := 2) rfl (by first | exact .inl rfl | exact .inr (.inl rfl) | exact .inr (.inr rfl))) (a_nil)))))) (tS_one (tS_if (t_cmp (op_isnotDd) (e_slot (i := 10) rfl (by first | exact .inl rfl | exact .inr (.inl rfl) | exact .inr (.inr rfl))) (e_cstN) (nomark _)) (tS_one (tS_ret (e_tup (a_cons (e_tup (a_cons (e_slot (i := 3) rfl (by first | exact .inl rfl | exact .inr (.inl rfl) | exact .inr (.inr rfl))) (a_cons (e_slot (i := 6) rfl (by first | exact .inl rfl | exact .inr (.inl rfl) | exact .inr (.inr rfl))) (a_cons (e_blt c_len rfl B.b_len rfl (a_cons (e_slot (i := 8) rfl (by first | exact .inl rfl | exact .inr (.inl rfl) | exact .inr (.inr rfl))) (a_nil))) (a_nil))))) (a_cons (e_slot (i := 10) rfl (by first | exact .inl rfl | exact .inr (.inl rfl) | exact .inr (.inr rfl))) (a_nil)))))) (tS_nil))))))))) (tS_one (tS_ret (e_cstN))))
theorem ok_first_wrong_end (B : Amb P w K mg base fa ca) (F : FunD K "first_wrong_end" "first_wrong_end" (defArgs s_first_wrong_end) (defBody s_first_wrong_end) (defScope s_first_wrong_end) [] [] (fa "first_wrong_end") fd) (me : mg "first_wrong_end" = some (.ref (fa "first_wrong_end"))) (D_why_unfit : DefOk P w K mg base fa ca 2 "why_unfit" 3 f_why_unfit) :
    DefOk P w K mg base fa ca 3 "first_wrong_end" 1 f_first_wrong_end :=
  ⟨⟨fd, ["functions"], okG_first_wrong_end B F me D_why_unfit, F.kp, F.bindsN (fun _ _ _ _ _ _ us hl => match us, hl with | [_], _ => rfl), me, rfl⟩⟩
theorem okG_is_end (B : Amb P w K mg base fa ca) (F : FunD K "is_end" "is_end" (defArgs s_is_end) (defBody s_is_end) (defScope s_is_end) [] [] (fa "is_end") fd) (me : mg "is_end" = some (.ref (fa "is_end"))) (D_has_parts : DefOk P w K mg base fa ca 5 "has_parts" 3 f_has_parts) (D_is_part : DefOk P w K mg base fa ca 4 "is_part" 2 f_is_part) (D_first_word : DefOk P w K mg base fa ca 1 "first_word" 1 f_first_word) :
    FnG P w K mg base (L2.CX P w) 6 (fa "is_end") fd ["value"] (spOf ⟨K, ⟨fa, P, w⟩, ca⟩ f_is_end) := by
  have nd : List.Nodup N_is_end := sc_is_end.nd
  refine def_ok (fa := fa) (ca := ca) (k := 5) (N := N_is_end) (ps := ["value"]) (m := m_is_end) F sc_is_end rfl (by decide) (fun cdv A outer s H E T hr gd => ?_)
  have hu := Hu.of hr
  exact tS_seq (tS_asg (i := 1) (own := false) nd rfl (by first | exact .inl rfl | exact .inr rfl) (e_kget (a := ca "ENDS") rfl B.g_ENDS B.t_ENDS (e_callD D_first_word (hr.mono (by decide)) gd rfl hp_of (a_cons (e_slot (i := 0) rfl (by first | exact .inl rfl | exact .inr (.inl rfl) | exact .inr (.inr rfl))) (a_nil))) ⟨rfl, rfl, rfl, rfl⟩)) (tS_one (tS_ret (e_and (e_cmp (op_isnotDd) (e_slot (i := 1) rfl (by first | exact .inl rfl | exact .inr (.inl rfl) | exact .inr (.inr rfl))) (e_cstN) (nomark _)) (pe_one (e_callD D_has_parts (hr.mono (by decide)) gd rfl hp_of (a_cons (e_slot (i := 0) rfl (by first | exact .inl rfl | exact .inr (.inl rfl) | exact .inr (.inr rfl))) (a_cons (e_slot (i := 1) rfl (by first | exact .inl rfl | exact .inr (.inl rfl) | exact .inr (.inr rfl))) (a_cons (e_fn rfl D_is_part.mg_eq) (a_nil)))))))))
theorem ok_is_end (B : Amb P w K mg base fa ca) (F : FunD K "is_end" "is_end" (defArgs s_is_end) (defBody s_is_end) (defScope s_is_end) [] [] (fa "is_end") fd) (me : mg "is_end" = some (.ref (fa "is_end"))) (D_has_parts : DefOk P w K mg base fa ca 5 "has_parts" 3 f_has_parts) (D_is_part : DefOk P w K mg base fa ca 4 "is_part" 2 f_is_part) (D_first_word : DefOk P w K mg base fa ca 1 "first_word" 1 f_first_word) :
    DefOk P w K mg base fa ca 6 "is_end" 1 f_is_end :=
  ⟨⟨fd, ["value"], okG_is_end B F me D_has_parts D_is_part D_first_word, F.kp, F.bindsN (fun _ _ _ _ _ _ us hl => match us, hl with | [_], _ => rfl), me, rfl⟩⟩
theorem okG_is_step (B : Amb P w K mg base fa ca) (F : FunD K "is_step" "is_step" (defArgs s_is_step) (defBody s_is_step) (defScope s_is_step) [] [] (fa "is_step") fd) (me : mg "is_step" = some (.ref (fa "is_step"))) (D_has_parts : DefOk P w K mg base fa ca 5 "has_parts" 3 f_has_parts) (D_is_part : DefOk P w K mg base fa ca 4 "is_part" 2 f_is_part) (D_first_word : DefOk P w K mg base fa ca 1 "first_word" 1 f_first_word) :
    FnG P w K mg base (L2.CX P w) 6 (fa "is_step") fd ["value"] (spOf ⟨K, ⟨fa, P, w⟩, ca⟩ f_is_step) := by
  have nd : List.Nodup N_is_step := sc_is_step.nd
  refine def_ok (fa := fa) (ca := ca) (k := 5) (N := N_is_step) (ps := ["value"]) (m := m_is_step) F sc_is_step rfl (by decide) (fun cdv A outer s H E T hr gd => ?_)
  have hu := Hu.of hr
  exact tS_seq (tS_asg (i := 1) (own := false) nd rfl (by first | exact .inl rfl | exact .inr rfl) (e_kget (a := ca "STEPS") rfl B.g_STEPS B.t_STEPS (e_callD D_first_word (hr.mono (by decide)) gd rfl hp_of (a_cons (e_slot (i := 0) rfl (by first | exact .inl rfl | exact .inr (.inl rfl) | exact .inr (.inr rfl))) (a_nil))) ⟨rfl, rfl, rfl, rfl⟩)) (tS_one (tS_ret (e_and (e_cmp (op_isnotDd) (e_slot (i := 1) rfl (by first | exact .inl rfl | exact .inr (.inl rfl) | exact .inr (.inr rfl))) (e_cstN) (nomark _)) (pe_one (e_callD D_has_parts (hr.mono (by decide)) gd rfl hp_of (a_cons (e_slot (i := 0) rfl (by first | exact .inl rfl | exact .inr (.inl rfl) | exact .inr (.inr rfl))) (a_cons (e_slot (i := 1) rfl (by first | exact .inl rfl | exact .inr (.inl rfl) | exact .inr (.inr rfl))) (a_cons (e_fn rfl D_is_part.mg_eq) (a_nil)))))))))
theorem ok_is_step (B : Amb P w K mg base fa ca) (F : FunD K "is_step" "is_step" (defArgs s_is_step) (defBody s_is_step) (defScope s_is_step) [] [] (fa "is_step") fd) (me : mg "is_step" = some (.ref (fa "is_step"))) (D_has_parts : DefOk P w K mg base fa ca 5 "has_parts" 3 f_has_parts) (D_is_part : DefOk P w K mg base fa ca 4 "is_part" 2 f_is_part) (D_first_word : DefOk P w K mg base fa ca 1 "first_word" 1 f_first_word) :
    DefOk P w K mg base fa ca 6 "is_step" 1 f_is_step :=
  ⟨⟨fd, ["value"], okG_is_step B F me D_has_parts D_is_part D_first_word, F.kp, F.bindsN (fun _ _ _ _ _ _ us hl => match us, hl with | [_], _ => rfl), me, rfl⟩⟩
theorem okG_first_wrong_step (B : Amb P w K mg base fa ca) (F : FunD K "first_wrong_step" "first_wrong_step" (defArgs s_first_wrong_step) (defBody s_first_wrong_step) (defScope s_first_wrong_step) [] [] (fa "first_wrong_step") fd) (me : mg "first_wrong_step" = some (.ref (fa "first_wrong_step"))) (D_is_end : DefOk P w K mg base fa ca 6 "is_end" 1 f_is_end) (D_is_step : DefOk P w K mg base fa ca 6 "is_step" 1 f_is_step) :
    FnG P w K mg base (L2.CX P w) 7 (fa "first_wrong_step") fd ["steps", "end"] (spOf ⟨K, ⟨fa, P, w⟩, ca⟩ f_first_wrong_step) := by
  have nd : List.Nodup N_first_wrong_step := sc_first_wrong_step.nd
  refine def_ok (fa := fa) (ca := ca) (k := 6) (N := N_first_wrong_step) (ps := ["steps", "end"]) (m := m_first_wrong_step) F sc_first_wrong_step rfl (by decide) (fun cdv A outer s H E T hr gd => ?_)
  have hu := Hu.of hr
  exact tS_seq (tS_for hpo_of rfl (i_enum rfl B.b_enumerate (e_slot (i := 0) rfl (by first | exact .inl rfl | exact .inr (.inl rfl) | exact .inr (.inr rfl)))) (g_tup rfl (gs_cons (g_name (i := 2) nd rfl (by first | exact .inl rfl | exact .inr rfl)) (gs_cons (g_name (i := 3) nd rfl (by first | exact .inl rfl | exact .inr rfl)) (gs_nil)))) (tS_one (tS_if (t_not (t_tru (e_callD D_is_step (hr.mono (by decide)) gd rfl hp_of (a_cons (e_slot (i := 3) rfl (by first | exact .inl rfl | exact .inr (.inl rfl) | exact .inr (.inr rfl))) (a_nil))) (fun _ => rfl))) (tS_one (tS_ret (e_slot (i := 2) rfl (by first | exact .inl rfl | exact .inr (.inl rfl) | exact .inr (.inr rfl))))) (tS_nil)))) (tS_seq (tS_if (t_not (t_tru (e_callD D_is_end (hr.mono (by decide)) gd rfl hp_of (a_cons (e_slot (i := 1) rfl (by first | exact .inl rfl | exact .inr (.inl rfl) | exact .inr (.inr rfl))) (a_nil))) (fun _ => rfl))) (tS_one (tS_ret (e_blt c_len rfl B.b_len rfl (a_cons (e_slot (i := 0) rfl (by first | exact .inl rfl | exact .inr (.inl rfl) | exact .inr (.inr rfl))) (a_nil))))) (tS_nil)) (tS_one (tS_ret (e_cstN))))
theorem ok_first_wrong_step (B : Amb P w K mg base fa ca) (F : FunD K "first_wrong_step" "first_wrong_step" (defArgs s_first_wrong_step) (defBody s_first_wrong_step) (defScope s_first_wrong_step) [] [] (fa "first_wrong_step") fd) (me : mg "first_wrong_step" = some (.ref (fa "first_wrong_step"))) (D_is_end : DefOk P w K mg base fa ca 6 "is_end" 1 f_is_end) (D_is_step : DefOk P w K mg base fa ca 6 "is_step" 1 f_is_step) :
    DefOk P w K mg base fa ca 7 "first_wrong_step" 2 f_first_wrong_step :=
  ⟨⟨fd, ["steps", "end"], okG_first_wrong_step B F me D_is_end D_is_step, F.kp, F.bindsN (fun _ _ _ _ _ _ us hl => match us, hl with | [_, _], _ => rfl), me, rfl⟩⟩
theorem okG_is_block (B : Amb P w K mg base fa ca) (F : FunD K "is_block" "is_block" (defArgs s_is_block) (defBody s_is_block) (defScope s_is_block) [] [] (fa "is_block") fd) (me : mg "is_block" = some (.ref (fa "is_block"))) (D_is_word : DefOk P w K mg base fa ca 2 "is_word" 1 f_is_word) (D_is_tuple_of : DefOk P w K mg base fa ca 1 "is_tuple_of" 2 f_is_tuple_of) :
    FnG P w K mg base (L2.CX P w) 3 (fa "is_block") fd ["value"] (spOf ⟨K, ⟨fa, P, w⟩, ca⟩ f_is_block) := by
  have nd : List.Nodup N_is_block := sc_is_block.nd
  refine def_ok (fa := fa) (ca := ca) (k := 2) (N := N_is_block) (ps := ["value"]) (m := m_is_block) F sc_is_block rfl (by decide) (fun cdv A outer s H E T hr gd => ?_)
  have hu := Hu.of hr
  exact tS_seq (tS_if (t_not (t_tru (e_callD D_is_tuple_of (hr.mono (by decide)) gd rfl hp_of (a_cons (e_slot (i := 0) rfl (by first | exact .inl rfl | exact .inr (.inl rfl) | exact .inr (.inr rfl))) (a_cons (e_cstI) (a_nil)))) (fun _ => rfl))) (tS_one (tS_ret (e_cstB))) (tS_nil)) (tS_seq (tS_unp (e_slot (i := 0) rfl (by first | exact .inl rfl | exact .inr (.inl rfl) | exact .inr (.inr rfl))) (g_tup rfl (gs_cons (g_name (i := 1) nd rfl (by first | exact .inl rfl | exact .inr rfl)) (gs_cons (g_name (i := 2) nd rfl (by first | exact .inl rfl | exact .inr rfl)) (gs_cons (g_name (i := 3) nd rfl (by first | exact .inl rfl | exact .inr rfl)) (gs_nil)))))) (tS_one (tS_ret (e_and (e_callD D_is_word (hr.mono (by decide)) gd rfl hp_of (a_cons (e_slot (i := 1) rfl (by first | exact .inl rfl | exact .inr (.inl rfl) | exact .inr (.inr rfl))) (a_nil))) (e_and (e_isi rfl B.b_isinstance rfl B.b_list rfl (e_slot (i := 2) rfl (by first | exact .inl rfl | exact .inr (.inl rfl) | exact .inr (.inr rfl)))) (pe_one (e_isi rfl B.b_isinstance rfl B.b_tuple rfl (e_slot (i := 3) rfl (by first | exact .inl rfl | exact .inr (.inl rfl) | exact .inr (.inr rfl))))))))))
theorem ok_is_block (B : Amb P w K mg base fa ca) (F : FunD K "is_block" "is_block" (defArgs s_is_block) (defBody s_is_block) (defScope s_is_block) [] [] (fa "is_block") fd) (me : mg "is_block" = some (.ref (fa "is_block"))) (D_is_word : DefOk P w K mg base fa ca 2 "is_word" 1 f_is_word) (D_is_tuple_of : DefOk P w K mg base fa ca 1 "is_tuple_of" 2 f_is_tuple_of) :
    DefOk P w K mg base fa ca 3 "is_block" 1 f_is_block :=
  ⟨⟨fd, ["value"], okG_is_block B F me D_is_word D_is_tuple_of, F.kp, F.bindsN (fun _ _ _ _ _ _ us hl => match us, hl with | [_], _ => rfl), me, rfl⟩⟩
theorem okG_first_wrong_block (B : Amb P w K mg base fa ca) (F : FunD K "first_wrong_block" "first_wrong_block" (defArgs s_first_wrong_block) (defBody s_first_wrong_block) (defScope s_first_wrong_block) [] [] (fa "first_wrong_block") fd) (me : mg "first_wrong_block" = some (.ref (fa "first_wrong_block"))) (D_first_wrong_step : DefOk P w K mg base fa ca 7 "first_wrong_step" 2 f_first_wrong_step) (D_is_block : DefOk P w K mg base fa ca 3 "is_block" 1 f_is_block) :
    FnG P w K mg base (L2.CX P w) 8 (fa "first_wrong_block") fd ["f", "blocks"] (spOf ⟨K, ⟨fa, P, w⟩, ca⟩ f_first_wrong_block) := by
  have nd : List.Nodup N_first_wrong_block := sc_first_wrong_block.nd
  refine def_ok (fa := fa) (ca := ca) (k := 7) (N := N_first_wrong_block) (ps := ["f", "blocks"]) (m := m_first_wrong_block) F sc_first_wrong_block rfl (by decide) (fun cdv A outer s H E T hr gd => ?_)
  have hu := Hu.of hr
  exact tS_seq (tS_set0 (nm := "") (i := 2) rfl B.b_set nd rfl (by first | exact .inl rfl | exact .inr rfl)) (tS_seq (tS_for hpo_of rfl (i_enum rfl B.b_enumerate (e_slot (i := 1) rfl (by first | exact .inl rfl | exact .inr (.inl rfl) | exact .inr (.inr rfl)))) (g_tup rfl (gs_cons (g_name (i := 3) nd rfl (by first | exact .inl rfl | exact .inr rfl)) (gs_cons (g_name (i := 4) nd rfl (by first | exact .inl rfl | exact .inr rfl)) (gs_nil)))) (tS_seq (tS_if (t_not (t_tru (e_callD D_is_block (hr.mono (by decide)) gd rfl hp_of (a_cons (e_slot (i := 4) rfl (by first | exact .inl rfl | exact .inr (.inl rfl) | exact .inr (.inr rfl))) (a_nil))) (fun _ => rfl))) (tS_one (tS_ret (e_tup (a_cons (e_tup (a_cons (e_slot (i := 0) rfl (by first | exact .inl rfl | exact .inr (.inl rfl) | exact .inr (.inr rfl))) (a_cons (e_slot (i := 3) rfl (by first | exact .inl rfl | exact .inr (.inl rfl) | exact .inr (.inr rfl))) (a_nil)))) (a_cons (e_cstS) (a_nil)))))) (tS_nil)) (tS_seq (tS_if (t_inSet (e_ix2 hu.one (e_slot (i := 4) rfl (by first | exact .inl rfl | exact .inr (.inl rfl) | exact .inr (.inr rfl))) (e_cstI) (fun _ _ => rfl)) (pe_var (i := 2) rfl (by first | exact .inl rfl | exact .inr (.inl rfl) | exact .inr (.inr rfl)))) (tS_one (tS_ret (e_tup (a_cons (e_tup (a_cons (e_slot (i := 0) rfl (by first | exact .inl rfl | exact .inr (.inl rfl) | exact .inr (.inr rfl))) (a_cons (e_slot (i := 3) rfl (by first | exact .inl rfl | exact .inr (.inl rfl) | exact .inr (.inr rfl))) (a_nil)))) (a_cons (e_cstS) (a_nil)))))) (tS_nil)) (tS_seq (tS_expr (e_sadd (pe_var (i := 2) rfl (by first | exact .inl rfl | exact .inr (.inl rfl) | exact .inr (.inr rfl))) (a_cons (e_ix2 hu.one (e_slot (i := 4) rfl (by first | exact .inl rfl | exact .inr (.inl rfl) | exact .inr (.inr rfl))) (e_cstI) (fun _ _ => rfl)) (a_nil)))) (tS_seq (tS_unp (e_slot (i := 4) rfl (by first | exact .inl rfl | exact .inr (.inl rfl) | exact .inr (.inr rfl))) (g_tup rfl (gs_cons (g_name (i := 5) nd rfl (by first | exact .inl rfl | exact .inr rfl)) (gs_cons (g_name (i := 6) nd rfl (by first | exact .inl rfl | exact .inr rfl)) (gs_cons (g_name (i := 7) nd rfl (by first | exact .inl rfl | exact .inr rfl)) (gs_nil)))))) (tS_seq (tS_asg (i := 8) (own := false) nd rfl (by first | exact .inl rfl | exact .inr rfl) (e_callD D_first_wrong_step (hr.mono (by decide)) gd rfl hp_of (a_cons (e_slot (i := 6) rfl (by first | exact .inl rfl | exact .inr (.inl rfl) | exact .inr (.inr rfl))) (a_cons (e_slot (i := 7) rfl (by first | exact .inl rfl | exact .inr (.inl rfl) | exact .inr (.inr rfl))) (a_nil))))) (tS_one (tS_if (t_cmp (op_isnotDd) (e_slot (i := 8) rfl (by first | exact .inl rfl | exact .inr (.inl rfl) | exact .inr (.inr rfl))) (e_cstN) (nomark _)) (tS_one (tS_ret (e_tup (a_cons (e_tup (a_cons (e_slot (i := 0) rfl (by first | exact .inl rfl | exact .inr (.inl rfl) | exact .inr (.inr rfl))) (a_cons (e_slot (i := 3) rfl (by first | exact .inl rfl | exact .inr (.inl rfl) | exact .inr (.inr rfl))) (a_cons (e_slot (i := 8) rfl (by first | exact .inl rfl | exact .inr (.inl rfl) | exact .inr (.inr rfl))) (a_nil))))) (a_cons (e_cstS) (a_nil)))))) (tS_nil))))))))) (tS_one (tS_ret (e_cstN))))
theorem ok_first_wrong_block (B : Amb P w K mg base fa ca) (F : FunD K "first_wrong_block" "first_wrong_block" (defArgs s_first_wrong_block) (defBody s_first_wrong_block) (defScope s_first_wrong_block) [] [] (fa "first_wrong_block") fd) (me : mg "first_wrong_block" = some (.ref (fa "first_wrong_block"))) (D_first_wrong_step : DefOk P w K mg base fa ca 7 "first_wrong_step" 2 f_first_wrong_step) (D_is_block : DefOk P w K mg base fa ca 3 "is_block" 1 f_is_block) :
    DefOk P w K mg base fa ca 8 "first_wrong_block" 2 f_first_wrong_block :=
  ⟨⟨fd, ["f", "blocks"], okG_first_wrong_block B F me D_first_wrong_step D_is_block, F.kp, F.bindsN (fun _ _ _ _ _ _ us hl => match us, hl with | [_, _], _ => rfl), me, rfl⟩⟩
theorem okG_is_function (B : Amb P w K mg base fa ca) (F : FunD K "is_function" "is_function" (defArgs s_is_function) (defBody s_is_function) (defScope s_is_function) [] [] (fa "is_function") fd) (me : mg "is_function" = some (.ref (fa "is_function"))) (D_is_list_of : DefOk P w K mg base fa ca 1 "is_list_of" 3 f_is_list_of) (D_are_parameters : DefOk P w K mg base fa ca 3 "are_parameters" 2 f_are_parameters) (D_is_word : DefOk P w K mg base fa ca 2 "is_word" 1 f_is_word) (D_is_tuple_of : DefOk P w K mg base fa ca 1 "is_tuple_of" 2 f_is_tuple_of) :
    FnG P w K mg base (L2.CX P w) 4 (fa "is_function") fd ["value"] (spOf ⟨K, ⟨fa, P, w⟩, ca⟩ f_is_function) := by
  have nd : List.Nodup N_is_function := sc_is_function.nd
  refine def_ok (fa := fa) (ca := ca) (k := 3) (N := N_is_function) (ps := ["value"]) (m := m_is_function) F sc_is_function rfl (by decide) (fun cdv A outer s H E T hr gd => ?_)
  have hu := Hu.of hr
  exact tS_seq (tS_if (t_not (t_tru (e_callD D_is_tuple_of (hr.mono (by decide)) gd rfl hp_of (a_cons (e_slot (i := 0) rfl (by first | exact .inl rfl | exact .inr (.inl rfl) | exact .inr (.inr rfl))) (a_cons (e_cstI) (a_nil)))) (fun _ => rfl))) (tS_one (tS_ret (e_cstB))) (tS_nil)) (tS_seq (tS_unp (e_slot (i := 0) rfl (by first | exact .inl rfl | exact .inr (.inl rfl) | exact .inr (.inr rfl))) (g_tup rfl (gs_cons (g_name (i := 1) nd rfl (by first | exact .inl rfl | exact .inr rfl)) (gs_cons (g_name (i := 2) nd rfl (by first | exact .inl rfl | exact .inr rfl)) (gs_cons (g_name (i := 3) nd rfl (by first | exact .inl rfl | exact .inr rfl)) (gs_nil)))))) (tS_one (tS_ret (e_and (e_callD D_is_word (hr.mono (by decide)) gd rfl hp_of (a_cons (e_slot (i := 1) rfl (by first | exact .inl rfl | exact .inr (.inl rfl) | exact .inr (.inr rfl))) (a_nil))) (e_and (e_callD D_are_parameters (hr.mono (by decide)) gd rfl hp_of (a_cons (e_slot (i := 2) rfl (by first | exact .inl rfl | exact .inr (.inl rfl) | exact .inr (.inr rfl))) (a_cons (e_fn rfl D_is_word.mg_eq) (a_nil)))) (pe_one (e_callD D_is_list_of (hr.mono (by decide)) gd rfl hp_of (a_cons (e_slot (i := 3) rfl (by first | exact .inl rfl | exact .inr (.inl rfl) | exact .inr (.inr rfl))) (a_cons (e_cstI) (a_cons (e_glob rfl B.k_MOST_BLOCKS) (a_nil)))))))))))
theorem ok_is_function (B : Amb P w K mg base fa ca) (F : FunD K "is_function" "is_function" (defArgs s_is_function) (defBody s_is_function) (defScope s_is_function) [] [] (fa "is_function") fd) (me : mg "is_function" = some (.ref (fa "is_function"))) (D_is_list_of : DefOk P w K mg base fa ca 1 "is_list_of" 3 f_is_list_of) (D_are_parameters : DefOk P w K mg base fa ca 3 "are_parameters" 2 f_are_parameters) (D_is_word : DefOk P w K mg base fa ca 2 "is_word" 1 f_is_word) (D_is_tuple_of : DefOk P w K mg base fa ca 1 "is_tuple_of" 2 f_is_tuple_of) :
    DefOk P w K mg base fa ca 4 "is_function" 1 f_is_function :=
  ⟨⟨fd, ["value"], okG_is_function B F me D_is_list_of D_are_parameters D_is_word D_is_tuple_of, F.kp, F.bindsN (fun _ _ _ _ _ _ us hl => match us, hl with | [_], _ => rfl), me, rfl⟩⟩
theorem okG_first_wrong_form (B : Amb P w K mg base fa ca) (F : FunD K "first_wrong_form" "first_wrong_form" (defArgs s_first_wrong_form) (defBody s_first_wrong_form) (defScope s_first_wrong_form) [] [] (fa "first_wrong_form") fd) (me : mg "first_wrong_form" = some (.ref (fa "first_wrong_form"))) (D_first_wrong_block : DefOk P w K mg base fa ca 8 "first_wrong_block" 2 f_first_wrong_block) (D_is_function : DefOk P w K mg base fa ca 4 "is_function" 1 f_is_function) :
    FnG P w K mg base (L2.CX P w) 9 (fa "first_wrong_form") fd ["functions"] (spOf ⟨K, ⟨fa, P, w⟩, ca⟩ f_first_wrong_form) := by
  have nd : List.Nodup N_first_wrong_form := sc_first_wrong_form.nd
  refine def_ok (fa := fa) (ca := ca) (k := 8) (N := N_first_wrong_form) (ps := ["functions"]) (m := m_first_wrong_form) F sc_first_wrong_form rfl (by decide) (fun cdv A outer s H E T hr gd => ?_)
  have hu := Hu.of hr
  exact tS_seq (tS_set0 (nm := "") (i := 1) rfl B.b_set nd rfl (by first | exact .inl rfl | exact .inr rfl)) (tS_seq (tS_for hpo_of rfl (i_enum rfl B.b_enumerate (e_slot (i := 0) rfl (by first | exact .inl rfl | exact .inr (.inl rfl) | exact .inr (.inr rfl)))) (g_tup rfl (gs_cons (g_name (i := 2) nd rfl (by first | exact .inl rfl | exact .inr rfl)) (gs_cons (g_name (i := 3) nd rfl (by first | exact .inl rfl | exact .inr rfl)) (gs_nil)))) (tS_seq (tS_if (t_not (t_tru (e_callD D_is_function (hr.mono (by decide)) gd rfl hp_of (a_cons (e_slot (i := 3) rfl (by first | exact .inl rfl | exact .inr (.inl rfl) | exact .inr (.inr rfl))) (a_nil))) (fun _ => rfl))) (tS_one (tS_ret (e_tup (a_cons (e_tup (a_cons (e_slot (i := 2) rfl (by first | exact .inl rfl | exact .inr (.inl rfl) | exact .inr (.inr rfl))) (a_nil))) (a_cons (e_cstS) (a_nil)))))) (tS_nil)) (tS_seq (tS_if (t_inSet (e_ix2 hu.one (e_slot (i := 3) rfl (by first | exact .inl rfl | exact .inr (.inl rfl) | exact .inr (.inr rfl))) (e_cstI) (fun _ _ => rfl)) (pe_var (i := 1) rfl (by first | exact .inl rfl | exact .inr (.inl rfl) | exact .inr (.inr rfl)))) (tS_one (tS_ret (e_tup (a_cons (e_tup (a_cons (e_slot (i := 2) rfl (by first | exact .inl rfl | exact .inr (.inl rfl) | exact .inr (.inr rfl))) (a_nil))) (a_cons (e_cstS) (a_nil)))))) (tS_nil)) (tS_seq (tS_expr (e_sadd (pe_var (i := 1) rfl (by first | exact .inl rfl | exact .inr (.inl rfl) | exact .inr (.inr rfl))) (a_cons (e_ix2 hu.one (e_slot (i := 3) rfl (by first | exact .inl rfl | exact .inr (.inl rfl) | exact .inr (.inr rfl))) (e_cstI) (fun _ _ => rfl)) (a_nil)))) (tS_seq (tS_asg (i := 4) (own := false) nd rfl (by first | exact .inl rfl | exact .inr rfl) (e_callD D_first_wrong_block (hr.mono (by decide)) gd rfl hp_of (a_cons (e_slot (i := 2) rfl (by first | exact .inl rfl | exact .inr (.inl rfl) | exact .inr (.inr rfl))) (a_cons (e_ix2 hu.one (e_slot (i := 3) rfl (by first | exact .inl rfl | exact .inr (.inl rfl) | exact .inr (.inr rfl))) (e_cstI) (fun _ _ => rfl)) (a_nil))))) (tS_one (tS_if (t_cmp (op_isnotDd) (e_slot (i := 4) rfl (by first | exact .inl rfl | exact .inr (.inl rfl) | exact .inr (.inr rfl))) (e_cstN) (nomark _)) (tS_one (tS_ret (e_slot (i := 4) rfl (by first | exact .inl rfl | exact .inr (.inl rfl) | exact .inr (.inr rfl))))) (tS_nil)))))))) (tS_one (tS_ret (e_cstN))))
theorem ok_first_wrong_form (B : Amb P w K mg base fa ca) (F : FunD K "first_wrong_form" "first_wrong_form" (defArgs s_first_wrong_form) (defBody s_first_wrong_form) (defScope s_first_wrong_form) [] [] (fa "first_wrong_form") fd) (me : mg "first_wrong_form" = some (.ref (fa "first_wrong_form"))) (D_first_wrong_block : DefOk P w K mg base fa ca 8 "first_wrong_block" 2 f_first_wrong_block) (D_is_function : DefOk P w K mg base fa ca 4 "is_function" 1 f_is_function) :
    DefOk P w K mg base fa ca 9 "first_wrong_form" 1 f_first_wrong_form :=
  ⟨⟨fd, ["functions"], okG_first_wrong_form B F me D_first_wrong_block D_is_function, F.kp, F.bindsN (fun _ _ _ _ _ _ us hl => match us, hl with | [_], _ => rfl), me, rfl⟩⟩
theorem okG_first_wrong (B : Amb P w K mg base fa ca) (F : FunD K "first_wrong" "first_wrong" (defArgs s_first_wrong) (defBody s_first_wrong) (defScope s_first_wrong) [] [] (fa "first_wrong") fd) (me : mg "first_wrong" = some (.ref (fa "first_wrong"))) (D_first_wrong_end : DefOk P w K mg base fa ca 3 "first_wrong_end" 1 f_first_wrong_end) (D_first_wrong_form : DefOk P w K mg base fa ca 9 "first_wrong_form" 1 f_first_wrong_form) (D_is_list_of : DefOk P w K mg base fa ca 1 "is_list_of" 3 f_is_list_of) (D_is_tuple_of : DefOk P w K mg base fa ca 1 "is_tuple_of" 2 f_is_tuple_of) :
    FnG P w K mg base (L2.CX P w) 10 (fa "first_wrong") fd ["value"] (spOf ⟨K, ⟨fa, P, w⟩, ca⟩ f_first_wrong) := by
  have nd : List.Nodup N_first_wrong := sc_first_wrong.nd
  refine def_ok (fa := fa) (ca := ca) (k := 9) (N := N_first_wrong) (ps := ["value"]) (m := m_first_wrong) F sc_first_wrong rfl (by decide) (fun cdv A outer s H E T hr gd => ?_)
  have hu := Hu.of hr
  exact tS_seq (tS_if (PW.pt (w_or (t_not (t_tru (e_callD D_is_tuple_of (hr.mono (by decide)) gd rfl hp_of (a_cons (e_slot (i := 0) rfl (by first | exact .inl rfl | exact .inr (.inl rfl) | exact .inr (.inr rfl))) (a_cons (e_cstI) (a_nil)))) (fun _ => rfl))) (w_or (t_cmp (op_neDd hu.u64) (e_ix2 hu.one (e_slot (i := 0) rfl (by first | exact .inl rfl | exact .inr (.inl rfl) | exact .inr (.inr rfl))) (e_cstI) (fun _ _ => rfl)) (e_cstS) (nomark _)) (pw_or1 (t_not (t_tru (e_callD D_is_list_of (hr.mono (by decide)) gd rfl hp_of (a_cons (e_ix2 hu.one (e_slot (i := 0) rfl (by first | exact .inl rfl | exact .inr (.inl rfl) | exact .inr (.inr rfl))) (e_cstI) (fun _ _ => rfl)) (a_cons (e_cstI) (a_cons (e_glob rfl B.k_MOST_FUNCTIONS) (a_nil))))) (fun _ => rfl))))))) (tS_one (tS_ret (e_tup (a_cons (e_tup (a_nil)) (a_cons (e_cstS) (a_nil)))))) (tS_nil)) (tS_seq (tS_asg (i := 1) (own := false) nd rfl (by first | exact .inl rfl | exact .inr rfl) (e_callD D_first_wrong_form (hr.mono (by decide)) gd rfl hp_of (a_cons (e_ix2 hu.one (e_slot (i := 0) rfl (by first | exact .inl rfl | exact .inr (.inl rfl) | exact .inr (.inr rfl))) (e_cstI) (fun _ _ => rfl)) (a_nil)))) (tS_seq (tS_if (t_cmp (op_isDd) (e_slot (i := 1) rfl (by first | exact .inl rfl | exact .inr (.inl rfl) | exact .inr (.inr rfl))) (e_cstN) (nomark _)) (tS_one (tS_asg (i := 1) (own := false) nd rfl (by first | exact .inl rfl | exact .inr rfl) (e_callD D_first_wrong_end (hr.mono (by decide)) gd rfl hp_of (a_cons (e_ix2 hu.one (e_slot (i := 0) rfl (by first | exact .inl rfl | exact .inr (.inl rfl) | exact .inr (.inr rfl))) (e_cstI) (fun _ _ => rfl)) (a_nil))))) (tS_nil)) (tS_one (tS_ret (e_slot (i := 1) rfl (by first | exact .inl rfl | exact .inr (.inl rfl) | exact .inr (.inr rfl)))))))
theorem ok_first_wrong (B : Amb P w K mg base fa ca) (F : FunD K "first_wrong" "first_wrong" (defArgs s_first_wrong) (defBody s_first_wrong) (defScope s_first_wrong) [] [] (fa "first_wrong") fd) (me : mg "first_wrong" = some (.ref (fa "first_wrong"))) (D_first_wrong_end : DefOk P w K mg base fa ca 3 "first_wrong_end" 1 f_first_wrong_end) (D_first_wrong_form : DefOk P w K mg base fa ca 9 "first_wrong_form" 1 f_first_wrong_form) (D_is_list_of : DefOk P w K mg base fa ca 1 "is_list_of" 3 f_is_list_of) (D_is_tuple_of : DefOk P w K mg base fa ca 1 "is_tuple_of" 2 f_is_tuple_of) :
    DefOk P w K mg base fa ca 10 "first_wrong" 1 f_first_wrong :=
  ⟨⟨fd, ["value"], okG_first_wrong B F me D_first_wrong_end D_first_wrong_form D_is_list_of D_is_tuple_of, F.kp, F.bindsN (fun _ _ _ _ _ _ us hl => match us, hl with | [_], _ => rfl), me, rfl⟩⟩
theorem okG_is_program (B : Amb P w K mg base fa ca) (F : FunD K "is_program" "is_program" (defArgs s_is_program) (defBody s_is_program) (defScope s_is_program) [] [] (fa "is_program") fd) (me : mg "is_program" = some (.ref (fa "is_program"))) (D_first_wrong : DefOk P w K mg base fa ca 10 "first_wrong" 1 f_first_wrong) :
    FnG P w K mg base (L2.CX P w) 11 (fa "is_program") fd ["value"] (spOf ⟨K, ⟨fa, P, w⟩, ca⟩ f_is_program) := by
  have nd : List.Nodup N_is_program := sc_is_program.nd
  refine def_ok (fa := fa) (ca := ca) (k := 10) (N := N_is_program) (ps := ["value"]) (m := m_is_program) F sc_is_program rfl (by decide) (fun cdv A outer s H E T hr gd => ?_)
  have hu := Hu.of hr
  exact tS_one (tS_ret (e_cmp (op_isDd) (e_callD D_first_wrong (hr.mono (by decide)) gd rfl hp_of (a_cons (e_slot (i := 0) rfl (by first | exact .inl rfl | exact .inr (.inl rfl) | exact .inr (.inr rfl))) (a_nil))) (e_cstN) (nomark _)))
theorem ok_is_program (B : Amb P w K mg base fa ca) (F : FunD K "is_program" "is_program" (defArgs s_is_program) (defBody s_is_program) (defScope s_is_program) [] [] (fa "is_program") fd) (me : mg "is_program" = some (.ref (fa "is_program"))) (D_first_wrong : DefOk P w K mg base fa ca 10 "first_wrong" 1 f_first_wrong) :
    DefOk P w K mg base fa ca 11 "is_program" 1 f_is_program :=
  ⟨⟨fd, ["value"], okG_is_program B F me D_first_wrong, F.kp, F.bindsN (fun _ _ _ _ _ _ us hl => match us, hl with | [_], _ => rfl), me, rfl⟩⟩
theorem okG_edges_of (B : Amb P w K mg base fa ca) (F : FunD K "edges_of" "edges_of" (defArgs s_edges_of) (defBody s_edges_of) (defScope s_edges_of) [] [] (fa "edges_of") fd) (me : mg "edges_of" = some (.ref (fa "edges_of")))  :
    FnG P w K mg base (L2.CX P w) 1 (fa "edges_of") fd ["program"] (spOf ⟨K, ⟨fa, P, w⟩, ca⟩ f_edges_of) := by
  have nd : List.Nodup N_edges_of := sc_edges_of.nd
  refine def_ok (fa := fa) (ca := ca) (k := 0) (N := N_edges_of) (ps := ["program"]) (m := m_edges_of) F sc_edges_of rfl (by decide) (fun cdv A outer s H E T hr gd => ?_)
  have hu := Hu.of hr
  exact tS_seq (tS_asg (i := 1) (own := true) nd rfl (by first | exact .inl rfl | exact .inr rfl) (e_lst (a_nil))) (tS_seq (tS_for hpo_of rfl (i_seq (e_ix2 hu.one (e_slot (i := 0) rfl (by first | exact .inl rfl | exact .inr (.inl rfl) | exact .inr (.inr rfl))) (e_cstI) (fun _ _ => rfl))) (g_tup rfl (gs_cons (g_name (i := 2) nd rfl (by first | exact .inl rfl | exact .inr rfl)) (gs_cons (g_name (i := 3) nd rfl (by first | exact .inl rfl | exact .inr rfl)) (gs_cons (g_name (i := 4) nd rfl (by first | exact .inl rfl | exact .inr rfl)) (gs_nil))))) (tS_one (tS_for hpo_of rfl (i_seq (e_slot (i := 4) rfl (by first | exact .inl rfl | exact .inr (.inl rfl) | exact .inr (.inr rfl)))) (g_tup rfl (gs_cons (g_name (i := 5) nd rfl (by first | exact .inl rfl | exact .inr rfl)) (gs_cons (g_name (i := 6) nd rfl (by first | exact .inl rfl | exact .inr rfl)) (gs_cons (g_name (i := 7) nd rfl (by first | exact .inl rfl | exact .inr rfl)) (gs_nil))))) (tS_one (tS_for hpo_of rfl (i_seq (e_kix (a := ca "WAYS") rfl B.g_WAYS B.t_WAYS (e_ix2 hu.one (e_slot (i := 7) rfl (by first | exact .inl rfl | exact .inr (.inl rfl) | exact .inr (.inr rfl))) (e_cstI) (fun _ _ => rfl)) (fun _ _ => rfl))) (g_tup rfl (gs_cons (g_name (i := 8) nd rfl (by first | exact .inl rfl | exact .inr rfl)) (gs_cons (g_name (i := 9) nd rfl (by first | exact .inl rfl | exact .inr rfl)) (gs_nil)))) (tS_one (tS_expr (e_append (pe_var (i := 1) rfl (by first | exact .inl rfl | exact .inr (.inl rfl) | exact .inr (.inr rfl))) (a_cons (e_tup (a_cons (e_slot (i := 2) rfl (by first | exact .inl rfl | exact .inr (.inl rfl) | exact .inr (.inr rfl))) (a_cons (e_slot (i := 5) rfl (by first | exact .inl rfl | exact .inr (.inl rfl) | exact .inr (.inr rfl))) (a_cons (e_slot (i := 8) rfl (by first | exact .inl rfl | exact .inr (.inl rfl) | exact .inr (.inr rfl))) (a_nil))))) (a_nil)))))))))) (tS_one (tS_ret (e_slot (i := 1) rfl (by first | exact .inl rfl | exact .inr (.inl rfl) | exact .inr (.inr rfl))))))
theorem ok_edges_of (B : Amb P w K mg base fa ca) (F : FunD K "edges_of" "edges_of" (defArgs s_edges_of) (defBody s_edges_of) (defScope s_edges_of) [] [] (fa "edges_of") fd) (me : mg "edges_of" = some (.ref (fa "edges_of")))  :
    DefOk P w K mg base fa ca 1 "edges_of" 1 f_edges_of :=
  ⟨⟨fd, ["program"], okG_edges_of B F me , F.kp, F.bindsN (fun _ _ _ _ _ _ us hl => match us, hl with | [_], _ => rfl), me, rfl⟩⟩
theorem okG_edges (B : Amb P w K mg base fa ca) (F : FunD K "edges" "edges" (defArgs s_edges) (defBody s_edges) (defScope s_edges) [] [] (fa "edges") fd) (me : mg "edges" = some (.ref (fa "edges"))) (D_edges_of : DefOk P w K mg base fa ca 1 "edges_of" 1 f_edges_of) (D_is_program : DefOk P w K mg base fa ca 11 "is_program" 1 f_is_program) :
    FnG P w K mg base (L2.CX P w) 12 (fa "edges") fd ["program"] (spOf ⟨K, ⟨fa, P, w⟩, ca⟩ f_edges) := by
  have nd : List.Nodup N_edges := sc_edges.nd
  refine def_ok (fa := fa) (ca := ca) (k := 11) (N := N_edges) (ps := ["program"]) (m := m_edges) F sc_edges rfl (by decide) (fun cdv A outer s H E T hr gd => ?_)
  have hu := Hu.of hr
  exact tS_seq (tS_if (t_not (t_tru (e_callD D_is_program (hr.mono (by decide)) gd rfl hp_of (a_cons (e_slot (i := 0) rfl (by first | exact .inl rfl | exact .inr (.inl rfl) | exact .inr (.inr rfl))) (a_nil))) (fun _ => rfl))) (tS_one (tS_raiseD (W := WU E) rfl tk_of B.e_InvalidProgram (hr.mono (by decide)) rfl (e_slot (i := 0) rfl (by first | exact .inl rfl | exact .inr (.inl rfl) | exact .inr (.inr rfl))))) (tS_nil)) (tS_one (tS_ret (e_callD D_edges_of (hr.mono (by decide)) gd rfl hp_of (a_cons (e_slot (i := 0) rfl (by first | exact .inl rfl | exact .inr (.inl rfl) | exact .inr (.inr rfl))) (a_nil)))))
theorem ok_edges (B : Amb P w K mg base fa ca) (F : FunD K "edges" "edges" (defArgs s_edges) (defBody s_edges) (defScope s_edges) [] [] (fa "edges") fd) (me : mg "edges" = some (.ref (fa "edges"))) (D_edges_of : DefOk P w K mg base fa ca 1 "edges_of" 1 f_edges_of) (D_is_program : DefOk P w K mg base fa ca 11 "is_program" 1 f_is_program) :
    DefOk P w K mg base fa ca 12 "edges" 1 f_edges :=
  ⟨⟨fd, ["program"], okG_edges B F me D_edges_of D_is_program, F.kp, F.bindsN (fun _ _ _ _ _ _ us hl => match us, hl with | [_], _ => rfl), me, rfl⟩⟩
theorem kw_edges (B : Amb P w K mg base fa ca) (F : FunD K "edges" "edges" (defArgs s_edges) (defBody s_edges) (defScope s_edges) [] [] (fa "edges") fd) (me : mg "edges" = some (.ref (fa "edges"))) (D_edges_of : DefOk P w K mg base fa ca 1 "edges_of" 1 f_edges_of) (D_is_program : DefOk P w K mg base fa ca 11 "is_program" 1 f_is_program) :
    KwOk P w K mg base fa ca 12 "edges" ["program"] [0] f_edges :=
  ⟨⟨fd, ["program"], okG_edges B F me D_edges_of D_is_program, F.kp, kwB_of F (fun _ _ _ _ _ _ ws hl => match ws, hl with | [_], _ => rfl), me⟩⟩
theorem okG_label_place (B : Amb P w K mg base fa ca) (F : FunD K "label_place" "label_place" (defArgs s_label_place) (defBody s_label_place) (defScope s_label_place) [] [] (fa "label_place") fd) (me : mg "label_place" = some (.ref (fa "label_place")))  :
    FnG P w K mg base (L2.CX P w) 1 (fa "label_place") fd ["end", "way"] (spOf ⟨K, ⟨fa, P, w⟩, ca⟩ f_label_place) := by
  have nd : List.Nodup N_label_place := sc_label_place.nd
  refine def_ok (fa := fa) (ca := ca) (k := 0) (N := N_label_place) (ps := ["end", "way"]) (m := m_label_place) F sc_label_place rfl (by decide) (fun cdv A outer s H E T hr gd => ?_)
  have hu := Hu.of hr
  exact tS_seq (tS_asgDc (i := 2) (o := false) (own := [("other", 3), ("at", 4)]) rfl nd rfl rfl (swD rfl rfl rfl (by decide +kernel)) (i_seq (e_kix (a := ca "WAYS") rfl B.g_WAYS B.t_WAYS (e_ix2 hu.one (e_slot (i := 0) rfl (by first | exact .inl rfl | exact .inr (.inl rfl) | exact .inr (.inr rfl))) (e_cstI) (fun _ _ => rfl)) (fun _ _ => rfl))) (blkOk_by (N := N_label_place) (sc := defScope s_label_place) (own := [("other", 3), ("at", 4)]) (by decide +kernel)) (fun _ _ _ _ _ => g_tup rfl (gs_cons (g_name (i := 3) nd rfl (by first | exact .inl rfl | exact .inr rfl)) (gs_cons (g_name (i := 4) nd rfl (by first | exact .inl rfl | exact .inr rfl)) (gs_nil)))) (fun _ _ _ _ _ => ts_yes) (fun _ _ _ _ _ => e_slot (i := 3) rfl (by first | exact .inl rfl | exact .inr (.inl rfl) | exact .inr (.inr rfl))) (fun _ _ _ _ _ => e_slot (i := 4) rfl (by first | exact .inl rfl | exact .inr (.inl rfl) | exact .inr (.inr rfl)))) (tS_one (tS_ret (e_ix2 hu.one (e_slot (i := 2) rfl (by first | exact .inl rfl | exact .inr (.inl rfl) | exact .inr (.inr rfl))) (e_slot (i := 1) rfl (by first | exact .inl rfl | exact .inr (.inl rfl) | exact .inr (.inr rfl))) (fun _ _ => rfl))))
theorem ok_label_place (B : Amb P w K mg base fa ca) (F : FunD K "label_place" "label_place" (defArgs s_label_place) (defBody s_label_place) (defScope s_label_place) [] [] (fa "label_place") fd) (me : mg "label_place" = some (.ref (fa "label_place")))  :
    DefOk P w K mg base fa ca 1 "label_place" 2 f_label_place :=
  ⟨⟨fd, ["end", "way"], okG_label_place B F me , F.kp, F.bindsN (fun _ _ _ _ _ _ us hl => match us, hl with | [_, _], _ => rfl), me, rfl⟩⟩
theorem okG_blocks_of (B : Amb P w K mg base fa ca) (F : FunD K "blocks_of" "blocks_of" (defArgs s_blocks_of) (defBody s_blocks_of) (defScope s_blocks_of) [] [] (fa "blocks_of") fd) (me : mg "blocks_of" = some (.ref (fa "blocks_of")))  :
    FnG P w K mg base (L2.CX P w) 1 (fa "blocks_of") fd ["program", "name"] (spOf ⟨K, ⟨fa, P, w⟩, ca⟩ f_blocks_of) := by
  have nd : List.Nodup N_blocks_of := sc_blocks_of.nd
  refine def_ok (fa := fa) (ca := ca) (k := 0) (N := N_blocks_of) (ps := ["program", "name"]) (m := m_blocks_of) F sc_blocks_of rfl (by decide) (fun cdv A outer s H E T hr gd => ?_)
  have hu := Hu.of hr
  exact tS_seq (tS_asgDc (i := 2) (o := false) (own := [("function", 3)]) rfl nd rfl rfl (swD rfl rfl rfl (by decide +kernel)) (i_seq (e_ix2 hu.one (e_slot (i := 0) rfl (by first | exact .inl rfl | exact .inr (.inl rfl) | exact .inr (.inr rfl))) (e_cstI) (fun _ _ => rfl))) (blkOk_by (N := N_blocks_of) (sc := defScope s_blocks_of) (own := [("function", 3)]) (by decide +kernel)) (fun _ _ _ _ _ => g_name (i := 3) nd rfl (by first | exact .inl rfl | exact .inr rfl)) (fun _ _ _ _ _ => ts_yes) (fun _ _ _ _ _ => e_ix2 hu.one (e_slot (i := 3) rfl (by first | exact .inl rfl | exact .inr (.inl rfl) | exact .inr (.inr rfl))) (e_cstI) (fun _ _ => rfl)) (fun _ _ _ _ _ => e_ix2 hu.one (e_slot (i := 3) rfl (by first | exact .inl rfl | exact .inr (.inl rfl) | exact .inr (.inr rfl))) (e_cstI) (fun _ _ => rfl))) (tS_one (tS_ret (e_ix2 hu.one (e_slot (i := 2) rfl (by first | exact .inl rfl | exact .inr (.inl rfl) | exact .inr (.inr rfl))) (e_slot (i := 1) rfl (by first | exact .inl rfl | exact .inr (.inl rfl) | exact .inr (.inr rfl))) (fun _ _ => rfl))))
theorem ok_blocks_of (B : Amb P w K mg base fa ca) (F : FunD K "blocks_of" "blocks_of" (defArgs s_blocks_of) (defBody s_blocks_of) (defScope s_blocks_of) [] [] (fa "blocks_of") fd) (me : mg "blocks_of" = some (.ref (fa "blocks_of")))  :
    DefOk P w K mg base fa ca 1 "blocks_of" 2 f_blocks_of :=
  ⟨⟨fd, ["program", "name"], okG_blocks_of B F me , F.kp, F.bindsN (fun _ _ _ _ _ _ us hl => match us, hl with | [_, _], _ => rfl), me, rfl⟩⟩
theorem okG_first_label (B : Amb P w K mg base fa ca) (F : FunD K "first_label" "first_label" (defArgs s_first_label) (defBody s_first_label) (defScope s_first_label) [] [] (fa "first_label") fd) (me : mg "first_label" = some (.ref (fa "first_label"))) (D_blocks_of : DefOk P w K mg base fa ca 1 "blocks_of" 2 f_blocks_of) :
    FnG P w K mg base (L2.CX P w) 2 (fa "first_label") fd ["program", "name"] (spOf ⟨K, ⟨fa, P, w⟩, ca⟩ f_first_label) := by
  have nd : List.Nodup N_first_label := sc_first_label.nd
  refine def_ok (fa := fa) (ca := ca) (k := 1) (N := N_first_label) (ps := ["program", "name"]) (m := m_first_label) F sc_first_label rfl (by decide) (fun cdv A outer s H E T hr gd => ?_)
  have hu := Hu.of hr
  exact tS_one (tS_ret (e_ix2 hu.one (e_ix2 hu.one (e_callD D_blocks_of (hr.mono (by decide)) gd rfl hp_of (a_cons (e_slot (i := 0) rfl (by first | exact .inl rfl | exact .inr (.inl rfl) | exact .inr (.inr rfl))) (a_cons (e_slot (i := 1) rfl (by first | exact .inl rfl | exact .inr (.inl rfl) | exact .inr (.inr rfl))) (a_nil)))) (e_cstI) (fun _ _ => rfl)) (e_cstI) (fun _ _ => rfl)))
theorem ok_first_label (B : Amb P w K mg base fa ca) (F : FunD K "first_label" "first_label" (defArgs s_first_label) (defBody s_first_label) (defScope s_first_label) [] [] (fa "first_label") fd) (me : mg "first_label" = some (.ref (fa "first_label"))) (D_blocks_of : DefOk P w K mg base fa ca 1 "blocks_of" 2 f_blocks_of) :
    DefOk P w K mg base fa ca 2 "first_label" 2 f_first_label :=
  ⟨⟨fd, ["program", "name"], okG_first_label B F me D_blocks_of, F.kp, F.bindsN (fun _ _ _ _ _ _ us hl => match us, hl with | [_, _], _ => rfl), me, rfl⟩⟩
theorem okG_end_of (B : Amb P w K mg base fa ca) (F : FunD K "end_of" "end_of" (defArgs s_end_of) (defBody s_end_of) (defScope s_end_of) [] [] (fa "end_of") fd) (me : mg "end_of" = some (.ref (fa "end_of"))) (D_blocks_of : DefOk P w K mg base fa ca 1 "blocks_of" 2 f_blocks_of) :
    FnG P w K mg base (L2.CX P w) 2 (fa "end_of") fd ["program", "name", "label"] (spOf ⟨K, ⟨fa, P, w⟩, ca⟩ f_end_of) := by
  have nd : List.Nodup N_end_of := sc_end_of.nd
  refine def_ok (fa := fa) (ca := ca) (k := 1) (N := N_end_of) (ps := ["program", "name", "label"]) (m := m_end_of) F sc_end_of rfl (by decide) (fun cdv A outer s H E T hr gd => ?_)
  have hu := Hu.of hr
  exact tS_seq (tS_asgDc (i := 3) (o := false) (own := [("block", 4)]) rfl nd rfl rfl (swD rfl rfl rfl (by decide +kernel)) (i_seq (e_callD D_blocks_of (hr.mono (by decide)) gd rfl hp_of (a_cons (e_slot (i := 0) rfl (by first | exact .inl rfl | exact .inr (.inl rfl) | exact .inr (.inr rfl))) (a_cons (e_slot (i := 1) rfl (by first | exact .inl rfl | exact .inr (.inl rfl) | exact .inr (.inr rfl))) (a_nil))))) (blkOk_by (N := N_end_of) (sc := defScope s_end_of) (own := [("block", 4)]) (by decide +kernel)) (fun _ _ _ _ _ => g_name (i := 4) nd rfl (by first | exact .inl rfl | exact .inr rfl)) (fun _ _ _ _ _ => ts_yes) (fun _ _ _ _ _ => e_ix2 hu.one (e_slot (i := 4) rfl (by first | exact .inl rfl | exact .inr (.inl rfl) | exact .inr (.inr rfl))) (e_cstI) (fun _ _ => rfl)) (fun _ _ _ _ _ => e_ix2 hu.one (e_slot (i := 4) rfl (by first | exact .inl rfl | exact .inr (.inl rfl) | exact .inr (.inr rfl))) (e_cstI) (fun _ _ => rfl))) (tS_one (tS_ret (e_ix2 hu.one (e_slot (i := 3) rfl (by first | exact .inl rfl | exact .inr (.inl rfl) | exact .inr (.inr rfl))) (e_slot (i := 2) rfl (by first | exact .inl rfl | exact .inr (.inl rfl) | exact .inr (.inr rfl))) (fun _ _ => rfl))))
theorem ok_end_of (B : Amb P w K mg base fa ca) (F : FunD K "end_of" "end_of" (defArgs s_end_of) (defBody s_end_of) (defScope s_end_of) [] [] (fa "end_of") fd) (me : mg "end_of" = some (.ref (fa "end_of"))) (D_blocks_of : DefOk P w K mg base fa ca 1 "blocks_of" 2 f_blocks_of) :
    DefOk P w K mg base fa ca 2 "end_of" 3 f_end_of :=
  ⟨⟨fd, ["program", "name", "label"], okG_end_of B F me D_blocks_of, F.kp, F.bindsN (fun _ _ _ _ _ _ us hl => match us, hl with | [_, _, _], _ => rfl), me, rfl⟩⟩
theorem okG_led_to (B : Amb P w K mg base fa ca) (F : FunD K "led_to" "led_to" (defArgs s_led_to) (defBody s_led_to) (defScope s_led_to) [] [] (fa "led_to") fd) (me : mg "led_to" = some (.ref (fa "led_to"))) (D_label_place : DefOk P w K mg base fa ca 1 "label_place" 2 f_label_place) (D_first_label : DefOk P w K mg base fa ca 2 "first_label" 2 f_first_label) (D_end_of : DefOk P w K mg base fa ca 2 "end_of" 3 f_end_of) (D_edges_of : DefOk P w K mg base fa ca 1 "edges_of" 1 f_edges_of) (D_is_program : DefOk P w K mg base fa ca 11 "is_program" 1 f_is_program) :
    FnG P w K mg base (L2.CX P w) 12 (fa "led_to") fd ["program", "edge"] (spOf ⟨K, ⟨fa, P, w⟩, ca⟩ f_led_to) := by
  have nd : List.Nodup N_led_to := sc_led_to.nd
  refine def_ok (fa := fa) (ca := ca) (k := 11) (N := N_led_to) (ps := ["program", "edge"]) (m := m_led_to) F sc_led_to rfl (by decide) (fun cdv A outer s H E T hr gd => ?_)
  have hu := Hu.of hr
  exact tS_seq (tS_if (t_not (t_tru (e_callD D_is_program (hr.mono (by decide)) gd rfl hp_of (a_cons (e_slot (i := 0) rfl (by first | exact .inl rfl | exact .inr (.inl rfl) | exact .inr (.inr rfl))) (a_nil))) (fun _ => rfl))) (tS_one (tS_raiseD (W := WU E) rfl tk_of B.e_InvalidProgram (hr.mono (by decide)) rfl (e_slot (i := 0) rfl (by first | exact .inl rfl | exact .inr (.inl rfl) | exact .inr (.inr rfl))))) (tS_nil)) (tS_seq (tS_if (t_cmp (op_notinDX hu.u65) (e_slot (i := 1) rfl (by first | exact .inl rfl | exact .inr (.inl rfl) | exact .inr (.inr rfl))) (e_callD D_edges_of (hr.mono (by decide)) gd rfl hp_of (a_cons (e_slot (i := 0) rfl (by first | exact .inl rfl | exact .inr (.inl rfl) | exact .inr (.inr rfl))) (a_nil))) (by with_unfolding_all rfl)) (tS_one (tS_raiseD (W := WU E) rfl tk_of B.e_InvalidEdge (hr.mono (by decide)) rfl (e_slot (i := 1) rfl (by first | exact .inl rfl | exact .inr (.inl rfl) | exact .inr (.inr rfl))))) (tS_nil)) (tS_seq (tS_unp (e_slot (i := 1) rfl (by first | exact .inl rfl | exact .inr (.inl rfl) | exact .inr (.inr rfl))) (g_tup rfl (gs_cons (g_name (i := 2) nd rfl (by first | exact .inl rfl | exact .inr rfl)) (gs_cons (g_name (i := 3) nd rfl (by first | exact .inl rfl | exact .inr rfl)) (gs_cons (g_name (i := 4) nd rfl (by first | exact .inl rfl | exact .inr rfl)) (gs_nil)))))) (tS_seq (tS_asg (i := 5) (own := false) nd rfl (by first | exact .inl rfl | exact .inr rfl) (e_callD D_end_of (hr.mono (by decide)) gd rfl hp_of (a_cons (e_slot (i := 0) rfl (by first | exact .inl rfl | exact .inr (.inl rfl) | exact .inr (.inr rfl))) (a_cons (e_slot (i := 2) rfl (by first | exact .inl rfl | exact .inr (.inl rfl) | exact .inr (.inr rfl))) (a_cons (e_slot (i := 3) rfl (by first | exact .inl rfl | exact .inr (.inl rfl) | exact .inr (.inr rfl))) (a_nil)))))) (tS_seq (tS_if (t_cmp (op_eqDd hu.u64) (e_slot (i := 4) rfl (by first | exact .inl rfl | exact .inr (.inl rfl) | exact .inr (.inr rfl))) (e_cstS) (nomark _)) (tS_one (tS_ret (e_tup (a_cons (e_ix2 hu.one (e_slot (i := 5) rfl (by first | exact .inl rfl | exact .inr (.inl rfl) | exact .inr (.inr rfl))) (e_cstI) (fun _ _ => rfl)) (a_cons (e_callD D_first_label (hr.mono (by decide)) gd rfl hp_of (a_cons (e_slot (i := 0) rfl (by first | exact .inl rfl | exact .inr (.inl rfl) | exact .inr (.inr rfl))) (a_cons (e_ix2 hu.one (e_slot (i := 5) rfl (by first | exact .inl rfl | exact .inr (.inl rfl) | exact .inr (.inr rfl))) (e_cstI) (fun _ _ => rfl)) (a_nil)))) (a_nil)))))) (tS_nil)) (tS_seq (tS_asg (i := 6) (own := false) nd rfl (by first | exact .inl rfl | exact .inr rfl) (e_callD D_label_place (hr.mono (by decide)) gd rfl hp_of (a_cons (e_slot (i := 5) rfl (by first | exact .inl rfl | exact .inr (.inl rfl) | exact .inr (.inr rfl))) (a_cons (e_slot (i := 4) rfl (by first | exact .inl rfl | exact .inr (.inl rfl) | exact .inr (.inr rfl))) (a_nil))))) (tS_seq (tS_if (t_cmp (op_isDd) (e_slot (i := 6) rfl (by first | exact .inl rfl | exact .inr (.inl rfl) | exact .inr (.inr rfl))) (e_cstN) (nomark _)) (tS_one (tS_ret (e_cstN))) (tS_nil)) (tS_one (tS_ret (e_tup (a_cons (e_slot (i := 2) rfl (by first | exact .inl rfl | exact .inr (.inl rfl) | exact .inr (.inr rfl))) (a_cons (e_ix2 hu.one (e_slot (i := 5) rfl (by first | exact .inl rfl | exact .inr (.inl rfl) | exact .inr (.inr rfl))) (e_slot (i := 6) rfl (by first | exact .inl rfl | exact .inr (.inl rfl) | exact .inr (.inr rfl))) (fun _ _ => rfl)) (a_nil))))))))))))
theorem ok_led_to (B : Amb P w K mg base fa ca) (F : FunD K "led_to" "led_to" (defArgs s_led_to) (defBody s_led_to) (defScope s_led_to) [] [] (fa "led_to") fd) (me : mg "led_to" = some (.ref (fa "led_to"))) (D_label_place : DefOk P w K mg base fa ca 1 "label_place" 2 f_label_place) (D_first_label : DefOk P w K mg base fa ca 2 "first_label" 2 f_first_label) (D_end_of : DefOk P w K mg base fa ca 2 "end_of" 3 f_end_of) (D_edges_of : DefOk P w K mg base fa ca 1 "edges_of" 1 f_edges_of) (D_is_program : DefOk P w K mg base fa ca 11 "is_program" 1 f_is_program) :
    DefOk P w K mg base fa ca 12 "led_to" 2 f_led_to :=
  ⟨⟨fd, ["program", "edge"], okG_led_to B F me D_label_place D_first_label D_end_of D_edges_of D_is_program, F.kp, F.bindsN (fun _ _ _ _ _ _ us hl => match us, hl with | [_, _], _ => rfl), me, rfl⟩⟩
theorem kw_led_to (B : Amb P w K mg base fa ca) (F : FunD K "led_to" "led_to" (defArgs s_led_to) (defBody s_led_to) (defScope s_led_to) [] [] (fa "led_to") fd) (me : mg "led_to" = some (.ref (fa "led_to"))) (D_label_place : DefOk P w K mg base fa ca 1 "label_place" 2 f_label_place) (D_first_label : DefOk P w K mg base fa ca 2 "first_label" 2 f_first_label) (D_end_of : DefOk P w K mg base fa ca 2 "end_of" 3 f_end_of) (D_edges_of : DefOk P w K mg base fa ca 1 "edges_of" 1 f_edges_of) (D_is_program : DefOk P w K mg base fa ca 11 "is_program" 1 f_is_program) :
    KwOk P w K mg base fa ca 12 "led_to" ["edge", "program"] [1, 0] f_led_to :=
  ⟨⟨fd, ["program", "edge"], okG_led_to B F me D_label_place D_first_label D_end_of D_edges_of D_is_program, F.kp, kwB_of F (fun _ _ _ _ _ _ ws hl => match ws, hl with | [_, _], _ => rfl), me⟩⟩
theorem okG__law_hash (B : Amb P w K mg base fa ca) (F : FunD K "_law_hash" "_law_hash" (defArgs s__law_hash) (defBody s__law_hash) (defScope s__law_hash) [] [] (fa "_law_hash") fd) (me : mg "_law_hash" = some (.ref (fa "_law_hash")))  :
    FnG P w K mg base (L2.CX P w) 1 (fa "_law_hash") fd ["seed", "index"] (spOf ⟨K, ⟨fa, P, w⟩, ca⟩ f__law_hash) := by
  have nd : List.Nodup N__law_hash := sc__law_hash.nd
  refine def_ok (fa := fa) (ca := ca) (k := 0) (N := N__law_hash) (ps := ["seed", "index"]) (m := m__law_hash) F sc__law_hash rfl (by decide) (fun cdv A outer s H E T hr gd => ?_)
  have hu := Hu.of hr
  exact tS_seq (tS_asg (i := 2) (own := false) nd rfl (by first | exact .inl rfl | exact .inr rfl) (e_bin op_modD (e_bty c_int rfl B.b_int rfl (a_cons (e_bin op_addD (e_bin op_addD (e_bin op_addD (e_bin op_mulD (e_slot (i := 0) rfl (by first | exact .inl rfl | exact .inr (.inl rfl) | exact .inr (.inr rfl))) (e_cstI)) (e_bin op_mulD (e_bin op_mulD (e_cstI) (e_slot (i := 1) rfl (by first | exact .inl rfl | exact .inr (.inl rfl) | exact .inr (.inr rfl)))) (e_slot (i := 1) rfl (by first | exact .inl rfl | exact .inr (.inl rfl) | exact .inr (.inr rfl))))) (e_bin op_mulD (e_cstI) (e_slot (i := 1) rfl (by first | exact .inl rfl | exact .inr (.inl rfl) | exact .inr (.inr rfl))))) (e_cstI)) (a_nil))) (e_cstI))) (tS_seq (tS_asg (i := 2) (own := false) nd rfl (by first | exact .inl rfl | exact .inr rfl) (e_bin op_modD (e_bty c_int rfl B.b_int rfl (a_cons (e_bin op_addD (e_bin op_addD (e_bin op_mulD (e_slot (i := 2) rfl (by first | exact .inl rfl | exact .inr (.inl rfl) | exact .inr (.inr rfl))) (e_slot (i := 2) rfl (by first | exact .inl rfl | exact .inr (.inl rfl) | exact .inr (.inr rfl)))) (e_bin op_mulD (e_cstI) (e_slot (i := 1) rfl (by first | exact .inl rfl | exact .inr (.inl rfl) | exact .inr (.inr rfl))))) (e_cstI)) (a_nil))) (e_cstI))) (tS_one (tS_ret (e_bin op_modD (e_bty c_int rfl B.b_int rfl (a_cons (e_bin op_mulD (e_slot (i := 2) rfl (by first | exact .inl rfl | exact .inr (.inl rfl) | exact .inr (.inr rfl))) (e_cstI)) (a_nil))) (e_cstI)))))
theorem ok__law_hash (B : Amb P w K mg base fa ca) (F : FunD K "_law_hash" "_law_hash" (defArgs s__law_hash) (defBody s__law_hash) (defScope s__law_hash) [] [] (fa "_law_hash") fd) (me : mg "_law_hash" = some (.ref (fa "_law_hash")))  :
    DefOk P w K mg base fa ca 1 "_law_hash" 2 f__law_hash :=
  ⟨⟨fd, ["seed", "index"], okG__law_hash B F me , F.kp, F.bindsN (fun _ _ _ _ _ _ us hl => match us, hl with | [_, _], _ => rfl), me, rfl⟩⟩
theorem okG__law_random (B : Amb P w K mg base fa ca) (F : FunD K "_law_random" "_law_random" (defArgs s__law_random) (defBody s__law_random) (defScope s__law_random) [] [] (fa "_law_random") fd) (me : mg "_law_random" = some (.ref (fa "_law_random"))) (D__law_hash : DefOk P w K mg base fa ca 1 "_law_hash" 2 f__law_hash) :
    FnG P w K mg base (L2.CX P w) 2 (fa "_law_random") fd ["generator", "bound"] (spOf ⟨K, ⟨fa, P, w⟩, ca⟩ f__law_random) := by
  have nd : List.Nodup N__law_random := sc__law_random.nd
  refine def_ok (fa := fa) (ca := ca) (k := 1) (N := N__law_random) (ps := ["generator", "bound"]) (m := m__law_random) F sc__law_random rfl (by decide) (fun cdv A outer s H E T hr gd => ?_)
  have hu := Hu.of hr
  exact tS_seq (tS_if (t_cmp (op_gtD) (e_ix2 hu.one (e_slot (i := 0) rfl (by first | exact .inl rfl | exact .inr (.inl rfl) | exact .inr (.inr rfl))) (e_cstI) (fun _ _ => rfl)) (e_cstI) (nomark _)) (tS_seq (tS_asg (i := 2) (own := false) nd rfl (by first | exact .inl rfl | exact .inr rfl) (e_bin op_modD (e_bty c_int rfl B.b_int rfl (a_cons (e_ix2 hu.one (e_slot (i := 0) rfl (by first | exact .inl rfl | exact .inr (.inl rfl) | exact .inr (.inr rfl))) (e_cstI) (fun _ _ => rfl)) (a_nil))) (e_slot (i := 1) rfl (by first | exact .inl rfl | exact .inr (.inl rfl) | exact .inr (.inr rfl))))) (tS_seq (tS_set (pe_var (i := 0) rfl (by first | exact .inl rfl | exact .inr (.inl rfl) | exact .inr (.inr rfl))) (e_cstI) (e_bin op_fdivD (e_ix2 hu.one (e_slot (i := 0) rfl (by first | exact .inl rfl | exact .inr (.inl rfl) | exact .inr (.inr rfl))) (e_cstI) (fun _ _ => rfl)) (e_slot (i := 1) rfl (by first | exact .inl rfl | exact .inr (.inl rfl) | exact .inr (.inr rfl)))) (pg_sub (pe_var (i := 0) rfl (by first | exact .inl rfl | exact .inr (.inl rfl) | exact .inr (.inr rfl))) (e_cstI) set_list)) (tS_one (tS_ret (e_slot (i := 2) rfl (by first | exact .inl rfl | exact .inr (.inl rfl) | exact .inr (.inr rfl))))))) (tS_nil)) (tS_seq (tS_asg (i := 2) (own := false) nd rfl (by first | exact .inl rfl | exact .inr rfl) (e_cstI)) (tS_seq (tS_for hpo_of rfl (i_range1 rfl B.b_range (e_bin op_addD (e_cstI) (e_bin op_fdivD (e_bits (e_slot (i := 1) rfl (by first | exact .inl rfl | exact .inr (.inl rfl) | exact .inr (.inr rfl)))) (e_cstI)))) (g_name (i := 3) nd rfl (by first | exact .inl rfl | exact .inr rfl)) (tS_seq (tS_set (pe_var (i := 0) rfl (by first | exact .inl rfl | exact .inr (.inl rfl) | exact .inr (.inr rfl))) (e_cstI) (e_bin op_addD (e_ix2 hu.one (e_slot (i := 0) rfl (by first | exact .inl rfl | exact .inr (.inl rfl) | exact .inr (.inr rfl))) (e_cstI) (fun _ _ => rfl)) (e_cstI)) (pg_sub (pe_var (i := 0) rfl (by first | exact .inl rfl | exact .inr (.inl rfl) | exact .inr (.inr rfl))) (e_cstI) set_list)) (tS_one (tS_asg (i := 2) (own := false) nd rfl (by first | exact .inl rfl | exact .inr rfl) (e_bin op_addD (e_bin op_mulD (e_slot (i := 2) rfl (by first | exact .inl rfl | exact .inr (.inl rfl) | exact .inr (.inr rfl))) (e_cstI)) (e_callD D__law_hash (hr.mono (by decide)) gd rfl hp_of (a_cons (e_ix2 hu.one (e_slot (i := 0) rfl (by first | exact .inl rfl | exact .inr (.inl rfl) | exact .inr (.inr rfl))) (e_cstI) (fun _ _ => rfl)) (a_cons (e_ix2 hu.one (e_slot (i := 0) rfl (by first | exact .inl rfl | exact .inr (.inl rfl) | exact .inr (.inr rfl))) (e_cstI) (fun _ _ => rfl)) (a_nil))))))))) (tS_one (tS_ret (e_bin op_modD (e_bty c_int rfl B.b_int rfl (a_cons (e_slot (i := 2) rfl (by first | exact .inl rfl | exact .inr (.inl rfl) | exact .inr (.inr rfl))) (a_nil))) (e_slot (i := 1) rfl (by first | exact .inl rfl | exact .inr (.inl rfl) | exact .inr (.inr rfl))))))))
theorem ok__law_random (B : Amb P w K mg base fa ca) (F : FunD K "_law_random" "_law_random" (defArgs s__law_random) (defBody s__law_random) (defScope s__law_random) [] [] (fa "_law_random") fd) (me : mg "_law_random" = some (.ref (fa "_law_random"))) (D__law_hash : DefOk P w K mg base fa ca 1 "_law_hash" 2 f__law_hash) :
    DefOk P w K mg base fa ca 2 "_law_random" 2 f__law_random :=
  ⟨⟨fd, ["generator", "bound"], okG__law_random B F me D__law_hash, F.kp, F.bindsN (fun _ _ _ _ _ _ us hl => match us, hl with | [_, _], _ => rfl), me, rfl⟩⟩
theorem okG__law_cell (B : Amb P w K mg base fa ca) (F : FunD K "_law_cell" "_law_cell" (defArgs s__law_cell) (defBody s__law_cell) (defScope s__law_cell) [] [] (fa "_law_cell") fd) (me : mg "_law_cell" = some (.ref (fa "_law_cell")))  :
    FnG P w K mg base (L2.CX P w) 1 (fa "_law_cell") fd ["script", "index"] (spOf ⟨K, ⟨fa, P, w⟩, ca⟩ f__law_cell) := by
  have nd : List.Nodup N__law_cell := sc__law_cell.nd
  refine def_ok (fa := fa) (ca := ca) (k := 0) (N := N__law_cell) (ps := ["script", "index"]) (m := m__law_cell) F sc__law_cell rfl (by decide) (fun cdv A outer s H E T hr gd => ?_)
  have hu := Hu.of hr
  exact tS_seq (tS_if (t_cmp (op_ltD) (e_slot (i := 1) rfl (by first | exact .inl rfl | exact .inr (.inl rfl) | exact .inr (.inr rfl))) (e_blt c_len rfl B.b_len rfl (a_cons (e_slot (i := 0) rfl (by first | exact .inl rfl | exact .inr (.inl rfl) | exact .inr (.inr rfl))) (a_nil))) (nomark _)) (tS_one (tS_ret (e_ix2 hu.one (e_slot (i := 0) rfl (by first | exact .inl rfl | exact .inr (.inl rfl) | exact .inr (.inr rfl))) (e_slot (i := 1) rfl (by first | exact .inl rfl | exact .inr (.inl rfl) | exact .inr (.inr rfl))) (fun _ _ => rfl)))) (tS_nil)) (tS_one (tS_ret (e_bin op_modD (e_blt (c_sum rfl) rfl B.b_sum rfl (a_cons (e_sl (e_slot (i := 0) rfl (by first | exact .inl rfl | exact .inr (.inl rfl) | exact .inr (.inr rfl))) (.non) (.som (e_cstI))) (a_nil))) (e_cstI))))
theorem ok__law_cell (B : Amb P w K mg base fa ca) (F : FunD K "_law_cell" "_law_cell" (defArgs s__law_cell) (defBody s__law_cell) (defScope s__law_cell) [] [] (fa "_law_cell") fd) (me : mg "_law_cell" = some (.ref (fa "_law_cell")))  :
    DefOk P w K mg base fa ca 1 "_law_cell" 2 f__law_cell :=
  ⟨⟨fd, ["script", "index"], okG__law_cell B F me , F.kp, F.bindsN (fun _ _ _ _ _ _ us hl => match us, hl with | [_, _], _ => rfl), me, rfl⟩⟩
theorem okG__law_generator (B : Amb P w K mg base fa ca) (F : FunD K "_law_generator" "_law_generator" (defArgs s__law_generator) (defBody s__law_generator) (defScope s__law_generator) [] [] (fa "_law_generator") fd) (me : mg "_law_generator" = some (.ref (fa "_law_generator"))) (D__law_cell : DefOk P w K mg base fa ca 1 "_law_cell" 2 f__law_cell) :
    FnG P w K mg base (L2.CX P w) 2 (fa "_law_generator") fd ["script", "index"] (spOf ⟨K, ⟨fa, P, w⟩, ca⟩ f__law_generator) := by
  have nd : List.Nodup N__law_generator := sc__law_generator.nd
  refine def_ok (fa := fa) (ca := ca) (k := 1) (N := N__law_generator) (ps := ["script", "index"]) (m := m__law_generator) F sc__law_generator rfl (by decide) (fun cdv A outer s H E T hr gd => ?_)
  have hu := Hu.of hr
  exact tS_seq (tS_asg (i := 2) (own := false) nd rfl (by first | exact .inl rfl | exact .inr rfl) (e_callD D__law_cell (hr.mono (by decide)) gd rfl hp_of (a_cons (e_slot (i := 0) rfl (by first | exact .inl rfl | exact .inr (.inl rfl) | exact .inr (.inr rfl))) (a_cons (e_slot (i := 1) rfl (by first | exact .inl rfl | exact .inr (.inl rfl) | exact .inr (.inr rfl))) (a_nil))))) (tS_one (tS_ret (e_lst (a_cons (e_bin op_modD (e_bty c_int rfl B.b_int rfl (a_cons (e_blt (c_max rfl) rfl B.b_max rfl (a_cons (e_bin op_subD (e_slot (i := 2) rfl (by first | exact .inl rfl | exact .inr (.inl rfl) | exact .inr (.inr rfl))) (e_bin op_powD (e_cstI) (e_cstI))) (a_cons (e_cstI) (a_nil)))) (a_nil))) (e_bin op_powD (e_bin op_powD (e_cstI) (e_cstI)) (e_cstI))) (a_cons (e_bin op_modD (e_bty c_int rfl B.b_int rfl (a_cons (e_slot (i := 2) rfl (by first | exact .inl rfl | exact .inr (.inl rfl) | exact .inr (.inr rfl))) (a_nil))) (e_cstI)) (a_cons (e_bin op_mulD (e_cstI) (e_slot (i := 1) rfl (by first | exact .inl rfl | exact .inr (.inl rfl) | exact .inr (.inr rfl)))) (a_nil)))))))
theorem ok__law_generator (B : Amb P w K mg base fa ca) (F : FunD K "_law_generator" "_law_generator" (defArgs s__law_generator) (defBody s__law_generator) (defScope s__law_generator) [] [] (fa "_law_generator") fd) (me : mg "_law_generator" = some (.ref (fa "_law_generator"))) (D__law_cell : DefOk P w K mg base fa ca 1 "_law_cell" 2 f__law_cell) :
    DefOk P w K mg base fa ca 2 "_law_generator" 2 f__law_generator :=
  ⟨⟨fd, ["script", "index"], okG__law_generator B F me D__law_cell, F.kp, F.bindsN (fun _ _ _ _ _ _ us hl => match us, hl with | [_, _], _ => rfl), me, rfl⟩⟩
theorem okG__law_pick (B : Amb P w K mg base fa ca) (F : FunD K "_law_pick" "_law_pick" (defArgs s__law_pick) (defBody s__law_pick) (defScope s__law_pick) [] [] (fa "_law_pick") fd) (me : mg "_law_pick" = some (.ref (fa "_law_pick"))) (D__law_random : DefOk P w K mg base fa ca 2 "_law_random" 2 f__law_random) :
    FnG P w K mg base (L2.CX P w) 3 (fa "_law_pick") fd ["generator", "things"] (spOf ⟨K, ⟨fa, P, w⟩, ca⟩ f__law_pick) := by
  have nd : List.Nodup N__law_pick := sc__law_pick.nd
  refine def_ok (fa := fa) (ca := ca) (k := 2) (N := N__law_pick) (ps := ["generator", "things"]) (m := m__law_pick) F sc__law_pick rfl (by decide) (fun cdv A outer s H E T hr gd => ?_)
  have hu := Hu.of hr
  exact tS_one (tS_ret (e_ix2 hu.one (e_slot (i := 1) rfl (by first | exact .inl rfl | exact .inr (.inl rfl) | exact .inr (.inr rfl))) (e_callD D__law_random (hr.mono (by decide)) gd rfl hp_of (a_cons (e_slot (i := 0) rfl (by first | exact .inl rfl | exact .inr (.inl rfl) | exact .inr (.inr rfl))) (a_cons (e_blt c_len rfl B.b_len rfl (a_cons (e_slot (i := 1) rfl (by first | exact .inl rfl | exact .inr (.inl rfl) | exact .inr (.inr rfl))) (a_nil))) (a_nil)))) (fun _ _ => rfl)))
theorem ok__law_pick (B : Amb P w K mg base fa ca) (F : FunD K "_law_pick" "_law_pick" (defArgs s__law_pick) (defBody s__law_pick) (defScope s__law_pick) [] [] (fa "_law_pick") fd) (me : mg "_law_pick" = some (.ref (fa "_law_pick"))) (D__law_random : DefOk P w K mg base fa ca 2 "_law_random" 2 f__law_random) :
    DefOk P w K mg base fa ca 3 "_law_pick" 2 f__law_pick :=
  ⟨⟨fd, ["generator", "things"], okG__law_pick B F me D__law_random, F.kp, F.bindsN (fun _ _ _ _ _ _ us hl => match us, hl with | [_, _], _ => rfl), me, rfl⟩⟩
theorem okG__law_drawn_order (B : Amb P w K mg base fa ca) (F : FunD K "_law_drawn_order" "_law_drawn_order" (defArgs s__law_drawn_order) (defBody s__law_drawn_order) (defScope s__law_drawn_order) [] [] (fa "_law_drawn_order") fd) (me : mg "_law_drawn_order" = some (.ref (fa "_law_drawn_order"))) (D__law_random : DefOk P w K mg base fa ca 2 "_law_random" 2 f__law_random) :
    FnG P w K mg base (L2.CX P w) 3 (fa "_law_drawn_order") fd ["generator", "things"] (spOf ⟨K, ⟨fa, P, w⟩, ca⟩ f__law_drawn_order) := by
  have nd : List.Nodup N__law_drawn_order := sc__law_drawn_order.nd
  refine def_ok (fa := fa) (ca := ca) (k := 2) (N := N__law_drawn_order) (ps := ["generator", "things"]) (m := m__law_drawn_order) F sc__law_drawn_order rfl (by decide) (fun cdv A outer s H E T hr gd => ?_)
  have hu := Hu.of hr
  exact tS_seq (tS_par2 (i := 2) (oi := true) (j := 3) (oj := true) rfl nd rfl rfl (by decide) rfl rfl (e_bty c_list rfl B.b_list rfl (a_cons (e_slot (i := 1) rfl (by first | exact .inl rfl | exact .inr (.inl rfl) | exact .inr (.inr rfl))) (a_nil))) (e_lst (a_nil)) (by rfl)) (tS_seq (tS_while hpo_of (t_cmp (op_neDd hu.u64) (e_slot (i := 2) rfl (by first | exact .inl rfl | exact .inr (.inl rfl) | exact .inr (.inr rfl))) (e_lst (a_nil)) (nomark _)) (tS_one (tS_expr (e_append (pe_var (i := 3) rfl (by first | exact .inl rfl | exact .inr (.inl rfl) | exact .inr (.inr rfl))) (a_cons (e_popAt (pe_var (i := 2) rfl (by first | exact .inl rfl | exact .inr (.inl rfl) | exact .inr (.inr rfl))) (a_cons (e_callD D__law_random (hr.mono (by decide)) gd rfl hp_of (a_cons (e_slot (i := 0) rfl (by first | exact .inl rfl | exact .inr (.inl rfl) | exact .inr (.inr rfl))) (a_cons (e_blt c_len rfl B.b_len rfl (a_cons (e_slot (i := 2) rfl (by first | exact .inl rfl | exact .inr (.inl rfl) | exact .inr (.inr rfl))) (a_nil))) (a_nil)))) (a_nil))) (a_nil)))))) (tS_one (tS_ret (e_slot (i := 3) rfl (by first | exact .inl rfl | exact .inr (.inl rfl) | exact .inr (.inr rfl))))))
theorem ok__law_drawn_order (B : Amb P w K mg base fa ca) (F : FunD K "_law_drawn_order" "_law_drawn_order" (defArgs s__law_drawn_order) (defBody s__law_drawn_order) (defScope s__law_drawn_order) [] [] (fa "_law_drawn_order") fd) (me : mg "_law_drawn_order" = some (.ref (fa "_law_drawn_order"))) (D__law_random : DefOk P w K mg base fa ca 2 "_law_random" 2 f__law_random) :
    DefOk P w K mg base fa ca 3 "_law_drawn_order" 2 f__law_drawn_order :=
  ⟨⟨fd, ["generator", "things"], okG__law_drawn_order B F me D__law_random, F.kp, F.bindsN (fun _ _ _ _ _ _ us hl => match us, hl with | [_, _], _ => rfl), me, rfl⟩⟩
theorem okG__law_number (B : Amb P w K mg base fa ca) (F : FunD K "_law_number" "_law_number" (defArgs s__law_number) (defBody s__law_number) (defScope s__law_number) [] [] (fa "_law_number") fd) (me : mg "_law_number" = some (.ref (fa "_law_number"))) (D__law_random : DefOk P w K mg base fa ca 2 "_law_random" 2 f__law_random) :
    FnG P w K mg base (L2.CX P w) 3 (fa "_law_number") fd ["generator"] (spOf ⟨K, ⟨fa, P, w⟩, ca⟩ f__law_number) := by
  have nd : List.Nodup N__law_number := sc__law_number.nd
  refine def_ok (fa := fa) (ca := ca) (k := 2) (N := N__law_number) (ps := ["generator"]) (m := m__law_number) F sc__law_number rfl (by decide) (fun cdv A outer s H E T hr gd => ?_)
  have hu := Hu.of hr
  exact tS_seq (tS_asg (i := 1) (own := false) nd rfl (by first | exact .inl rfl | exact .inr rfl) (e_callD D__law_random (hr.mono (by decide)) gd rfl hp_of (a_cons (e_slot (i := 0) rfl (by first | exact .inl rfl | exact .inr (.inl rfl) | exact .inr (.inr rfl))) (a_cons (e_cstI) (a_nil))))) (tS_seq (tS_if (t_cmp (op_ltD) (e_slot (i := 1) rfl (by first | exact .inl rfl | exact .inr (.inl rfl) | exact .inr (.inr rfl))) (e_cstI) (nomark _)) (tS_one (tS_ret (e_ix2 hu.one (e_lst (a_cons (e_cstI) (a_cons (e_cstI) (a_cons (e_cstI) (a_cons (e_cstI) (a_cons (e_neg e_cstI) (a_nil))))))) (e_slot (i := 1) rfl (by first | exact .inl rfl | exact .inr (.inl rfl) | exact .inr (.inr rfl))) (fun _ _ => rfl)))) (tS_nil)) (tS_one (tS_ret (e_ite (t_cmp (op_ltD) (e_slot (i := 1) rfl (by first | exact .inl rfl | exact .inr (.inl rfl) | exact .inr (.inr rfl))) (e_cstI) (nomark _)) (e_bin op_subD (e_callD D__law_random (hr.mono (by decide)) gd rfl hp_of (a_cons (e_slot (i := 0) rfl (by first | exact .inl rfl | exact .inr (.inl rfl) | exact .inr (.inr rfl))) (a_cons (e_cstI) (a_nil)))) (e_cstI)) (e_bin op_subD (e_callD D__law_random (hr.mono (by decide)) gd rfl hp_of (a_cons (e_slot (i := 0) rfl (by first | exact .inl rfl | exact .inr (.inl rfl) | exact .inr (.inr rfl))) (a_cons (e_bin op_addD (e_bin op_mulD (e_cstI) (e_bin op_powD (e_cstI) (e_cstI))) (e_cstI)) (a_nil)))) (e_bin op_powD (e_cstI) (e_cstI)))))))
theorem ok__law_number (B : Amb P w K mg base fa ca) (F : FunD K "_law_number" "_law_number" (defArgs s__law_number) (defBody s__law_number) (defScope s__law_number) [] [] (fa "_law_number") fd) (me : mg "_law_number" = some (.ref (fa "_law_number"))) (D__law_random : DefOk P w K mg base fa ca 2 "_law_random" 2 f__law_random) :
    DefOk P w K mg base fa ca 3 "_law_number" 1 f__law_number :=
  ⟨⟨fd, ["generator"], okG__law_number B F me D__law_random, F.kp, F.bindsN (fun _ _ _ _ _ _ us hl => match us, hl with | [_], _ => rfl), me, rfl⟩⟩
theorem okG__law_small (B : Amb P w K mg base fa ca) (F : FunD K "_law_small" "_law_small" (defArgs s__law_small) (defBody s__law_small) (defScope s__law_small) [] [] (fa "_law_small") fd) (me : mg "_law_small" = some (.ref (fa "_law_small"))) (D__law_pick : DefOk P w K mg base fa ca 3 "_law_pick" 2 f__law_pick) :
    FnG P w K mg base (L2.CX P w) 4 (fa "_law_small") fd ["generator"] (spOf ⟨K, ⟨fa, P, w⟩, ca⟩ f__law_small) := by
  have nd : List.Nodup N__law_small := sc__law_small.nd
  refine def_ok (fa := fa) (ca := ca) (k := 3) (N := N__law_small) (ps := ["generator"]) (m := m__law_small) F sc__law_small rfl (by decide) (fun cdv A outer s H E T hr gd => ?_)
  have hu := Hu.of hr
  exact tS_one (tS_ret (e_callD D__law_pick (hr.mono (by decide)) gd rfl hp_of (a_cons (e_slot (i := 0) rfl (by first | exact .inl rfl | exact .inr (.inl rfl) | exact .inr (.inr rfl))) (a_cons (e_lst (a_cons (e_cstS) (a_cons (e_cstS) (a_cons (e_cstS) (a_nil))))) (a_nil)))))
theorem ok__law_small (B : Amb P w K mg base fa ca) (F : FunD K "_law_small" "_law_small" (defArgs s__law_small) (defBody s__law_small) (defScope s__law_small) [] [] (fa "_law_small") fd) (me : mg "_law_small" = some (.ref (fa "_law_small"))) (D__law_pick : DefOk P w K mg base fa ca 3 "_law_pick" 2 f__law_pick) :
    DefOk P w K mg base fa ca 4 "_law_small" 1 f__law_small :=
  ⟨⟨fd, ["generator"], okG__law_small B F me D__law_pick, F.kp, F.bindsN (fun _ _ _ _ _ _ us hl => match us, hl with | [_], _ => rfl), me, rfl⟩⟩
theorem okG__law_any (B : Amb P w K mg base fa ca) (F : FunD K "_law_any" "_law_any" (defArgs s__law_any) (defBody s__law_any) (defScope s__law_any) [] [] (fa "_law_any") fd) (me : mg "_law_any" = some (.ref (fa "_law_any"))) (D__law_pick : DefOk P w K mg base fa ca 3 "_law_pick" 2 f__law_pick) :
    FnG P w K mg base (L2.CX P w) 4 (fa "_law_any") fd ["generator"] (spOf ⟨K, ⟨fa, P, w⟩, ca⟩ f__law_any) := by
  have nd : List.Nodup N__law_any := sc__law_any.nd
  refine def_ok (fa := fa) (ca := ca) (k := 3) (N := N__law_any) (ps := ["generator"]) (m := m__law_any) F sc__law_any rfl (by decide) (fun cdv A outer s H E T hr gd => ?_)
  have hu := Hu.of hr
  exact tS_one (tS_ret (e_callD D__law_pick (hr.mono (by decide)) gd rfl hp_of (a_cons (e_slot (i := 0) rfl (by first | exact .inl rfl | exact .inr (.inl rfl) | exact .inr (.inr rfl))) (a_cons (e_lst (a_cons (e_cstS) (a_cons (e_cstS) (a_cons (e_cstS) (a_cons (e_cstS) (a_cons (e_cstS) (a_nil))))))) (a_nil)))))
theorem ok__law_any (B : Amb P w K mg base fa ca) (F : FunD K "_law_any" "_law_any" (defArgs s__law_any) (defBody s__law_any) (defScope s__law_any) [] [] (fa "_law_any") fd) (me : mg "_law_any" = some (.ref (fa "_law_any"))) (D__law_pick : DefOk P w K mg base fa ca 3 "_law_pick" 2 f__law_pick) :
    DefOk P w K mg base fa ca 4 "_law_any" 1 f__law_any :=
  ⟨⟨fd, ["generator"], okG__law_any B F me D__law_pick, F.kp, F.bindsN (fun _ _ _ _ _ _ us hl => match us, hl with | [_], _ => rfl), me, rfl⟩⟩
theorem okG__law_drawn_step (B : Amb P w K mg base fa ca) (F : FunD K "_law_drawn_step" "_law_drawn_step" (defArgs s__law_drawn_step) (defBody s__law_drawn_step) (defScope s__law_drawn_step) [] [] (fa "_law_drawn_step") fd) (me : mg "_law_drawn_step" = some (.ref (fa "_law_drawn_step"))) (D__law_small : DefOk P w K mg base fa ca 4 "_law_small" 1 f__law_small) (D__law_any : DefOk P w K mg base fa ca 4 "_law_any" 1 f__law_any) (D__law_pick : DefOk P w K mg base fa ca 3 "_law_pick" 2 f__law_pick) (D__law_random : DefOk P w K mg base fa ca 2 "_law_random" 2 f__law_random) (D__law_number : DefOk P w K mg base fa ca 3 "_law_number" 1 f__law_number) :
    FnG P w K mg base (L2.CX P w) 5 (fa "_law_drawn_step") fd ["generator"] (spOf ⟨K, ⟨fa, P, w⟩, ca⟩ f__law_drawn_step) := by
  have nd : List.Nodup N__law_drawn_step := sc__law_drawn_step.nd
  refine def_ok (fa := fa) (ca := ca) (k := 4) (N := N__law_drawn_step) (ps := ["generator"]) (m := m__law_drawn_step) F sc__law_drawn_step rfl (by decide) (fun cdv A outer s H E T hr gd => ?_)
  have hu := Hu.of hr
  exact tS_seq (tS_asg (i := 1) (own := false) nd rfl (by first | exact .inl rfl | exact .inr rfl) (e_callD D__law_random (hr.mono (by decide)) gd rfl hp_of (a_cons (e_slot (i := 0) rfl (by first | exact .inl rfl | exact .inr (.inl rfl) | exact .inr (.inr rfl))) (a_cons (e_cstI) (a_nil))))) (tS_seq (tS_if (t_cmp (op_ltD) (e_slot (i := 1) rfl (by first | exact .inl rfl | exact .inr (.inl rfl) | exact .inr (.inr rfl))) (e_cstI) (nomark _)) (tS_one (tS_ret (e_tup (a_cons (e_cstS) (a_cons (e_callD D__law_any (hr.mono (by decide)) gd rfl hp_of (a_cons (e_slot (i := 0) rfl (by first | exact .inl rfl | exact .inr (.inl rfl) | exact .inr (.inr rfl))) (a_nil))) (a_cons (e_callD D__law_number (hr.mono (by decide)) gd rfl hp_of (a_cons (e_slot (i := 0) rfl (by first | exact .inl rfl | exact .inr (.inl rfl) | exact .inr (.inr rfl))) (a_nil))) (a_nil))))))) (tS_nil)) (tS_seq (tS_if (t_cmp (op_eqDd hu.u64) (e_slot (i := 1) rfl (by first | exact .inl rfl | exact .inr (.inl rfl) | exact .inr (.inr rfl))) (e_cstI) (nomark _)) (tS_one (tS_ret (e_tup (a_cons (e_cstS) (a_cons (e_ix2 hu.one (e_lst (a_cons (e_cstI) (a_cons (e_cstI) (a_cons (e_cstI) (a_cons (e_cstI) (a_nil)))))) (e_callD D__law_random (hr.mono (by decide)) gd rfl hp_of (a_cons (e_slot (i := 0) rfl (by first | exact .inl rfl | exact .inr (.inl rfl) | exact .inr (.inr rfl))) (a_cons (e_cstI) (a_nil)))) (fun _ _ => rfl)) (a_nil)))))) (tS_nil)) (tS_seq (tS_if (t_cmp (op_eqDd hu.u64) (e_slot (i := 1) rfl (by first | exact .inl rfl | exact .inr (.inl rfl) | exact .inr (.inr rfl))) (e_cstI) (nomark _)) (tS_one (tS_ret (e_tup (a_cons (e_cstS) (a_cons (e_callD D__law_small (hr.mono (by decide)) gd rfl hp_of (a_cons (e_slot (i := 0) rfl (by first | exact .inl rfl | exact .inr (.inl rfl) | exact .inr (.inr rfl))) (a_nil))) (a_cons (e_callD D__law_small (hr.mono (by decide)) gd rfl hp_of (a_cons (e_slot (i := 0) rfl (by first | exact .inl rfl | exact .inr (.inl rfl) | exact .inr (.inr rfl))) (a_nil))) (a_nil))))))) (tS_nil)) (tS_seq (tS_if (t_cmp (op_eqDd hu.u64) (e_slot (i := 1) rfl (by first | exact .inl rfl | exact .inr (.inl rfl) | exact .inr (.inr rfl))) (e_cstI) (nomark _)) (tS_one (tS_ret (e_tup (a_cons (e_cstS) (a_cons (e_callD D__law_pick (hr.mono (by decide)) gd rfl hp_of (a_cons (e_slot (i := 0) rfl (by first | exact .inl rfl | exact .inr (.inl rfl) | exact .inr (.inr rfl))) (a_cons (e_lst (a_cons (e_cstS) (a_cons (e_cstS) (a_nil)))) (a_nil)))) (a_cons (e_callD D__law_any (hr.mono (by decide)) gd rfl hp_of (a_cons (e_slot (i := 0) rfl (by first | exact .inl rfl | exact .inr (.inl rfl) | exact .inr (.inr rfl))) (a_nil))) (a_nil))))))) (tS_nil)) (tS_seq (tS_if (t_cmp (op_ltD) (e_slot (i := 1) rfl (by first | exact .inl rfl | exact .inr (.inl rfl) | exact .inr (.inr rfl))) (e_cstI) (nomark _)) (tS_one (tS_ret (e_tup (a_cons (e_cstS) (a_cons (e_callD D__law_any (hr.mono (by decide)) gd rfl hp_of (a_cons (e_slot (i := 0) rfl (by first | exact .inl rfl | exact .inr (.inl rfl) | exact .inr (.inr rfl))) (a_nil))) (a_nil)))))) (tS_nil)) (tS_seq (tS_if (t_cmp (op_ltD) (e_slot (i := 1) rfl (by first | exact .inl rfl | exact .inr (.inl rfl) | exact .inr (.inr rfl))) (e_cstI) (nomark _)) (tS_one (tS_ret (e_tup (a_cons (e_cstS) (a_cons (e_callD D__law_any (hr.mono (by decide)) gd rfl hp_of (a_cons (e_slot (i := 0) rfl (by first | exact .inl rfl | exact .inr (.inl rfl) | exact .inr (.inr rfl))) (a_nil))) (a_nil)))))) (tS_nil)) (tS_seq (tS_if (t_cmp (op_eqDd hu.u64) (e_slot (i := 1) rfl (by first | exact .inl rfl | exact .inr (.inl rfl) | exact .inr (.inr rfl))) (e_cstI) (nomark _)) (tS_one (tS_ret (e_tup (a_cons (e_cstS) (a_cons (e_callD D__law_small (hr.mono (by decide)) gd rfl hp_of (a_cons (e_slot (i := 0) rfl (by first | exact .inl rfl | exact .inr (.inl rfl) | exact .inr (.inr rfl))) (a_nil))) (a_cons (e_callD D__law_pick (hr.mono (by decide)) gd rfl hp_of (a_cons (e_slot (i := 0) rfl (by first | exact .inl rfl | exact .inr (.inl rfl) | exact .inr (.inr rfl))) (a_cons (e_lst (a_cons (e_cstS) (a_cons (e_cstS) (a_nil)))) (a_nil)))) (a_cons (e_callD D__law_small (hr.mono (by decide)) gd rfl hp_of (a_cons (e_slot (i := 0) rfl (by first | exact .inl rfl | exact .inr (.inl rfl) | exact .inr (.inr rfl))) (a_nil))) (a_cons (e_callD D__law_small (hr.mono (by decide)) gd rfl hp_of (a_cons (e_slot (i := 0) rfl (by first | exact .inl rfl | exact .inr (.inl rfl) | exact .inr (.inr rfl))) (a_nil))) (a_nil))))))))) (tS_nil)) (tS_seq (tS_if (t_cmp (op_eqDd hu.u64) (e_slot (i := 1) rfl (by first | exact .inl rfl | exact .inr (.inl rfl) | exact .inr (.inr rfl))) (e_cstI) (nomark _)) (tS_one (tS_ret (e_tup (a_cons (e_cstS) (a_cons (e_callD D__law_any (hr.mono (by decide)) gd rfl hp_of (a_cons (e_slot (i := 0) rfl (by first | exact .inl rfl | exact .inr (.inl rfl) | exact .inr (.inr rfl))) (a_nil))) (a_cons (e_callD D__law_pick (hr.mono (by decide)) gd rfl hp_of (a_cons (e_slot (i := 0) rfl (by first | exact .inl rfl | exact .inr (.inl rfl) | exact .inr (.inr rfl))) (a_cons (e_lst (a_cons (e_cstS) (a_cons (e_cstS) (a_nil)))) (a_nil)))) (a_cons (e_callD D__law_any (hr.mono (by decide)) gd rfl hp_of (a_cons (e_slot (i := 0) rfl (by first | exact .inl rfl | exact .inr (.inl rfl) | exact .inr (.inr rfl))) (a_nil))) (a_cons (e_callD D__law_any (hr.mono (by decide)) gd rfl hp_of (a_cons (e_slot (i := 0) rfl (by first | exact .inl rfl | exact .inr (.inl rfl) | exact .inr (.inr rfl))) (a_nil))) (a_nil))))))))) (tS_nil)) (tS_seq (tS_asg (i := 2) (own := false) nd rfl (by first | exact .inl rfl | exact .inr rfl) (e_callD D__law_pick (hr.mono (by decide)) gd rfl hp_of (a_cons (e_slot (i := 0) rfl (by first | exact .inl rfl | exact .inr (.inl rfl) | exact .inr (.inr rfl))) (a_cons (e_lst (a_cons (e_cstS) (a_cons (e_cstS) (a_nil)))) (a_nil))))) (tS_seq (tS_if (t_cmp (op_eqDd hu.u64) (e_slot (i := 1) rfl (by first | exact .inl rfl | exact .inr (.inl rfl) | exact .inr (.inr rfl))) (e_cstI) (nomark _)) (tS_one (tS_ret (e_tup (a_cons (e_cstS) (a_cons (e_slot (i := 2) rfl (by first | exact .inl rfl | exact .inr (.inl rfl) | exact .inr (.inr rfl))) (a_cons (e_callD D__law_pick (hr.mono (by decide)) gd rfl hp_of (a_cons (e_slot (i := 0) rfl (by first | exact .inl rfl | exact .inr (.inl rfl) | exact .inr (.inr rfl))) (a_cons (e_lst (a_cons (e_cstS) (a_cons (e_cstS) (a_nil)))) (a_nil)))) (a_cons (e_callD D__law_any (hr.mono (by decide)) gd rfl hp_of (a_cons (e_slot (i := 0) rfl (by first | exact .inl rfl | exact .inr (.inl rfl) | exact .inr (.inr rfl))) (a_nil))) (a_cons (e_callD D__law_small (hr.mono (by decide)) gd rfl hp_of (a_cons (e_slot (i := 0) rfl (by first | exact .inl rfl | exact .inr (.inl rfl) | exact .inr (.inr rfl))) (a_nil))) (a_nil))))))))) (tS_nil)) (tS_seq (tS_asg (i := 3) (own := false) nd rfl (by first | exact .inl rfl | exact .inr rfl) (e_callD D__law_pick (hr.mono (by decide)) gd rfl hp_of (a_cons (e_slot (i := 0) rfl (by first | exact .inl rfl | exact .inr (.inl rfl) | exact .inr (.inr rfl))) (a_cons (e_lst (a_cons (e_cstS) (a_cons (e_cstS) (a_cons (e_cstS) (a_nil))))) (a_nil))))) (tS_one (tS_ret (e_tup (a_cons (e_cstS) (a_cons (e_slot (i := 2) rfl (by first | exact .inl rfl | exact .inr (.inl rfl) | exact .inr (.inr rfl))) (a_cons (e_slot (i := 3) rfl (by first | exact .inl rfl | exact .inr (.inl rfl) | exact .inr (.inr rfl))) (a_cons (e_ite (t_cmp (op_eqDd hu.u64) (e_slot (i := 3) rfl (by first | exact .inl rfl | exact .inr (.inl rfl) | exact .inr (.inr rfl))) (e_cstS) (nomark _)) (e_callD D__law_small (hr.mono (by decide)) gd rfl hp_of (a_cons (e_slot (i := 0) rfl (by first | exact .inl rfl | exact .inr (.inl rfl) | exact .inr (.inr rfl))) (a_nil))) (e_callD D__law_any (hr.mono (by decide)) gd rfl hp_of (a_cons (e_slot (i := 0) rfl (by first | exact .inl rfl | exact .inr (.inl rfl) | exact .inr (.inr rfl))) (a_nil)))) (a_cons (e_callD D__law_small (hr.mono (by decide)) gd rfl hp_of (a_cons (e_slot (i := 0) rfl (by first | exact .inl rfl | exact .inr (.inl rfl) | exact .inr (.inr rfl))) (a_nil))) (a_nil))))))))))))))))))))
theorem ok__law_drawn_step (B : Amb P w K mg base fa ca) (F : FunD K "_law_drawn_step" "_law_drawn_step" (defArgs s__law_drawn_step) (defBody s__law_drawn_step) (defScope s__law_drawn_step) [] [] (fa "_law_drawn_step") fd) (me : mg "_law_drawn_step" = some (.ref (fa "_law_drawn_step"))) (D__law_small : DefOk P w K mg base fa ca 4 "_law_small" 1 f__law_small) (D__law_any : DefOk P w K mg base fa ca 4 "_law_any" 1 f__law_any) (D__law_pick : DefOk P w K mg base fa ca 3 "_law_pick" 2 f__law_pick) (D__law_random : DefOk P w K mg base fa ca 2 "_law_random" 2 f__law_random) (D__law_number : DefOk P w K mg base fa ca 3 "_law_number" 1 f__law_number) :
    DefOk P w K mg base fa ca 5 "_law_drawn_step" 1 f__law_drawn_step :=
  ⟨⟨fd, ["generator"], okG__law_drawn_step B F me D__law_small D__law_any D__law_pick D__law_random D__law_number, F.kp, F.bindsN (fun _ _ _ _ _ _ us hl => match us, hl with | [_], _ => rfl), me, rfl⟩⟩
theorem okG__law_drawn_call (B : Amb P w K mg base fa ca) (F : FunD K "_law_drawn_call" "_law_drawn_call" (defArgs s__law_drawn_call) (defBody s__law_drawn_call) (defScope s__law_drawn_call) [] [] (fa "_law_drawn_call") fd) (me : mg "_law_drawn_call" = some (.ref (fa "_law_drawn_call"))) (D__law_pick : DefOk P w K mg base fa ca 3 "_law_pick" 2 f__law_pick) (D__law_small : DefOk P w K mg base fa ca 4 "_law_small" 1 f__law_small) (D__law_any : DefOk P w K mg base fa ca 4 "_law_any" 1 f__law_any) :
    FnG P w K mg base (L2.CX P w) 5 (fa "_law_drawn_call") fd ["generator", "called", "label", "other"] (spOf ⟨K, ⟨fa, P, w⟩, ca⟩ f__law_drawn_call) := by
  have nd : List.Nodup N__law_drawn_call := sc__law_drawn_call.nd
  refine def_ok (fa := fa) (ca := ca) (k := 4) (N := N__law_drawn_call) (ps := ["generator", "called", "label", "other"]) (m := m__law_drawn_call) F sc__law_drawn_call rfl (by decide) (fun cdv A outer s H E T hr gd => ?_)
  have hu := Hu.of hr
  exact tS_seq (tS_asgLc (i := 4) (o := false) (own := [("parameter", 6)]) rfl nd rfl rfl (sw_true rfl rfl rfl (by decide +kernel)) (i_seq (e_ix2 hu.one (e_slot (i := 1) rfl (by first | exact .inl rfl | exact .inr (.inl rfl) | exact .inr (.inr rfl))) (e_cstI) (fun _ _ => rfl))) (blkOk_by (N := N__law_drawn_call) (sc := defScope s__law_drawn_call) (own := [("parameter", 6)]) (by decide +kernel)) (fun _ _ _ _ _ => g_name (i := 6) nd rfl (by first | exact .inl rfl | exact .inr rfl)) (fun _ _ _ _ _ => ts_yes) (fun _ _ _ _ _ => e_ite (t_cmp (op_inDX hu.u65) (e_slot (i := 6) rfl (by first | exact .inl rfl | exact .inr (.inl rfl) | exact .inr (.inr rfl))) (e_lst (a_cons (e_cstS) (a_cons (e_cstS) (a_cons (e_cstS) (a_nil))))) (by with_unfolding_all rfl)) (e_callD D__law_small (hr.mono (by decide)) gd rfl passB (a_cons (e_slot (i := 0) rfl (by first | exact .inl rfl | exact .inr (.inl rfl) | exact .inr (.inr rfl))) (a_nil))) (e_callD D__law_any (hr.mono (by decide)) gd rfl passB (a_cons (e_slot (i := 0) rfl (by first | exact .inl rfl | exact .inr (.inl rfl) | exact .inr (.inr rfl))) (a_nil))))) (tS_seq (tS_asg (i := 5) (own := false) nd rfl (by first | exact .inl rfl | exact .inr rfl) (e_tup (a_cons (e_cstS) (a_cons (e_callD D__law_pick (hr.mono (by decide)) gd rfl hp_of (a_cons (e_slot (i := 0) rfl (by first | exact .inl rfl | exact .inr (.inl rfl) | exact .inr (.inr rfl))) (a_cons (e_lst (a_cons (e_cstS) (a_cons (e_cstS) (a_nil)))) (a_nil)))) (a_cons (e_ix2 hu.one (e_slot (i := 1) rfl (by first | exact .inl rfl | exact .inr (.inl rfl) | exact .inr (.inr rfl))) (e_cstI) (fun _ _ => rfl)) (a_cons (e_bty c_tuple rfl B.b_tuple rfl (a_cons (e_slot (i := 4) rfl (by first | exact .inl rfl | exact .inr (.inl rfl) | exact .inr (.inr rfl))) (a_nil))) (a_cons (e_slot (i := 2) rfl (by first | exact .inl rfl | exact .inr (.inl rfl) | exact .inr (.inr rfl))) (a_nil)))))))) (tS_one (tS_ret (e_ite (t_cmp (op_isDd) (e_slot (i := 3) rfl (by first | exact .inl rfl | exact .inr (.inl rfl) | exact .inr (.inr rfl))) (e_cstN) (nomark _)) (e_slot (i := 5) rfl (by first | exact .inl rfl | exact .inr (.inl rfl) | exact .inr (.inr rfl))) (e_bin op_addD (e_bin op_addD (e_tup (a_cons (e_cstS) (a_nil))) (e_sl (e_slot (i := 5) rfl (by first | exact .inl rfl | exact .inr (.inl rfl) | exact .inr (.inr rfl))) (.som (e_cstI)) (.non))) (e_tup (a_cons (e_callD D__law_pick (hr.mono (by decide)) gd rfl hp_of (a_cons (e_slot (i := 0) rfl (by first | exact .inl rfl | exact .inr (.inl rfl) | exact .inr (.inr rfl))) (a_cons (e_lst (a_cons (e_cstS) (a_cons (e_cstS) (a_nil)))) (a_nil)))) (a_cons (e_slot (i := 3) rfl (by first | exact .inl rfl | exact .inr (.inl rfl) | exact .inr (.inr rfl))) (a_nil)))))))))
theorem ok__law_drawn_call (B : Amb P w K mg base fa ca) (F : FunD K "_law_drawn_call" "_law_drawn_call" (defArgs s__law_drawn_call) (defBody s__law_drawn_call) (defScope s__law_drawn_call) [] [] (fa "_law_drawn_call") fd) (me : mg "_law_drawn_call" = some (.ref (fa "_law_drawn_call"))) (D__law_pick : DefOk P w K mg base fa ca 3 "_law_pick" 2 f__law_pick) (D__law_small : DefOk P w K mg base fa ca 4 "_law_small" 1 f__law_small) (D__law_any : DefOk P w K mg base fa ca 4 "_law_any" 1 f__law_any) :
    DefOk P w K mg base fa ca 5 "_law_drawn_call" 4 f__law_drawn_call :=
  ⟨⟨fd, ["generator", "called", "label", "other"], okG__law_drawn_call B F me D__law_pick D__law_small D__law_any, F.kp, F.bindsN (fun _ _ _ _ _ _ us hl => match us, hl with | [_, _, _, _], _ => rfl), me, rfl⟩⟩
theorem okG__law_drawn_end (B : Amb P w K mg base fa ca) (F : FunD K "_law_drawn_end" "_law_drawn_end" (defArgs s__law_drawn_end) (defBody s__law_drawn_end) (defScope s__law_drawn_end) [] [] (fa "_law_drawn_end") fd) (me : mg "_law_drawn_end" = some (.ref (fa "_law_drawn_end"))) (D__law_drawn_call : DefOk P w K mg base fa ca 5 "_law_drawn_call" 4 f__law_drawn_call) (D__law_pick : DefOk P w K mg base fa ca 3 "_law_pick" 2 f__law_pick) (D__law_small : DefOk P w K mg base fa ca 4 "_law_small" 1 f__law_small) (D__law_any : DefOk P w K mg base fa ca 4 "_law_any" 1 f__law_any) (D__law_random : DefOk P w K mg base fa ca 2 "_law_random" 2 f__law_random) :
    FnG P w K mg base (L2.CX P w) 6 (fa "_law_drawn_end") fd ["generator", "style", "labels", "at", "known", "own"] (spOf ⟨K, ⟨fa, P, w⟩, ca⟩ f__law_drawn_end) := by
  have nd : List.Nodup N__law_drawn_end := sc__law_drawn_end.nd
  refine def_ok (fa := fa) (ca := ca) (k := 5) (N := N__law_drawn_end) (ps := ["generator", "style", "labels", "at", "known", "own"]) (m := m__law_drawn_end) F sc__law_drawn_end rfl (by decide) (fun cdv A outer s H E T hr gd => ?_)
  have hu := Hu.of hr
  exact tS_seq (tS_asg (i := 6) (own := false) nd rfl (by first | exact .inl rfl | exact .inr rfl) (e_ite (t_cmp (op_eqDd hu.u64) (e_slot (i := 1) rfl (by first | exact .inl rfl | exact .inr (.inl rfl) | exact .inr (.inr rfl))) (e_cstI) (nomark _)) (e_slot (i := 2) rfl (by first | exact .inl rfl | exact .inr (.inl rfl) | exact .inr (.inr rfl))) (e_sl (e_slot (i := 2) rfl (by first | exact .inl rfl | exact .inr (.inl rfl) | exact .inr (.inr rfl))) (.som (e_bin op_addD (e_slot (i := 3) rfl (by first | exact .inl rfl | exact .inr (.inl rfl) | exact .inr (.inr rfl))) (e_cstI))) (.non)))) (tS_seq (tS_par2 (i := 7) (oi := false) (j := 8) (oj := false) rfl nd rfl rfl (by decide) rfl rfl (e_ix2 hu.one (e_lst (a_cons (e_sl (e_slot (i := 4) rfl (by first | exact .inl rfl | exact .inr (.inl rfl) | exact .inr (.inr rfl))) (.som (e_bin op_addD (e_slot (i := 5) rfl (by first | exact .inl rfl | exact .inr (.inl rfl) | exact .inr (.inr rfl))) (e_cstI))) (.non)) (a_cons (e_sl (e_slot (i := 4) rfl (by first | exact .inl rfl | exact .inr (.inl rfl) | exact .inr (.inr rfl))) (.som (e_cstI)) (.non)) (a_cons (e_bin op_addD (e_sl (e_slot (i := 4) rfl (by first | exact .inl rfl | exact .inr (.inl rfl) | exact .inr (.inr rfl))) (.som (e_cstI)) (.non)) (e_slot (i := 4) rfl (by first | exact .inl rfl | exact .inr (.inl rfl) | exact .inr (.inr rfl)))) (a_nil))))) (e_slot (i := 1) rfl (by first | exact .inl rfl | exact .inr (.inl rfl) | exact .inr (.inr rfl))) (fun _ _ => rfl)) (e_cmp (op_eqDd hu.u64) (e_bin op_addD (e_slot (i := 3) rfl (by first | exact .inl rfl | exact .inr (.inl rfl) | exact .inr (.inr rfl))) (e_cstI)) (e_blt c_len rfl B.b_len rfl (a_cons (e_slot (i := 2) rfl (by first | exact .inl rfl | exact .inr (.inl rfl) | exact .inr (.inr rfl))) (a_nil))) (nomark _)) (by rfl)) (tS_seq (tS_if (PW.pt (w_or (t_cmp (op_eqDd hu.u64) (e_slot (i := 6) rfl (by first | exact .inl rfl | exact .inr (.inl rfl) | exact .inr (.inr rfl))) (e_lst (a_nil)) (nomark _)) (pw_or1 (t_cmp (op_ltD) (e_callD D__law_random (hr.mono (by decide)) gd rfl hp_of (a_cons (e_slot (i := 0) rfl (by first | exact .inl rfl | exact .inr (.inl rfl) | exact .inr (.inr rfl))) (a_cons (e_ite (t_tru (e_slot (i := 8) rfl (by first | exact .inl rfl | exact .inr (.inl rfl) | exact .inr (.inr rfl))) (fun _ => rfl)) (e_cstI) (e_cstI)) (a_nil)))) (e_bin op_addD (e_cstI) (e_bty c_int rfl B.b_int rfl (a_cons (e_slot (i := 8) rfl (by first | exact .inl rfl | exact .inr (.inl rfl) | exact .inr (.inr rfl))) (a_nil)))) (nomark _))))) (tS_one (tS_ret (e_tup (a_cons (e_callD D__law_pick (hr.mono (by decide)) gd rfl hp_of (a_cons (e_slot (i := 0) rfl (by first | exact .inl rfl | exact .inr (.inl rfl) | exact .inr (.inr rfl))) (a_cons (e_lst (a_cons (e_cstS) (a_cons (e_cstS) (a_cons (e_cstS) (a_nil))))) (a_nil)))) (a_cons (e_callD D__law_any (hr.mono (by decide)) gd rfl hp_of (a_cons (e_slot (i := 0) rfl (by first | exact .inl rfl | exact .inr (.inl rfl) | exact .inr (.inr rfl))) (a_nil))) (a_nil)))))) (tS_nil)) (tS_seq (tS_asg (i := 9) (own := false) nd rfl (by first | exact .inl rfl | exact .inr rfl) (e_ite (PW.pt (w_and (t_cmp (op_gtD) (e_callD D__law_random (hr.mono (by decide)) gd rfl hp_of (a_cons (e_slot (i := 0) rfl (by first | exact .inl rfl | exact .inr (.inl rfl) | exact .inr (.inr rfl))) (a_cons (e_cstI) (a_nil)))) (e_cstI) (nomark _)) (pw_and1 (t_not (t_tru (e_slot (i := 8) rfl (by first | exact .inl rfl | exact .inr (.inl rfl) | exact .inr (.inr rfl))) (fun _ => rfl)))))) (e_sl (e_slot (i := 2) rfl (by first | exact .inl rfl | exact .inr (.inl rfl) | exact .inr (.inr rfl))) (.som (e_bin op_addD (e_slot (i := 3) rfl (by first | exact .inl rfl | exact .inr (.inl rfl) | exact .inr (.inr rfl))) (e_cstI))) (.som (e_bin op_addD (e_slot (i := 3) rfl (by first | exact .inl rfl | exact .inr (.inl rfl) | exact .inr (.inr rfl))) (e_cstI)))) (e_slot (i := 6) rfl (by first | exact .inl rfl | exact .inr (.inl rfl) | exact .inr (.inr rfl))))) (tS_seq (tS_asg (i := 10) (own := false) nd rfl (by first | exact .inl rfl | exact .inr rfl) (e_bin op_addD (e_lst (a_cons (e_cstS) (a_cons (e_cstS) (a_cons (e_cstS) (a_cons (e_cstS) (a_cons (e_cstS) (a_cons (e_cstS) (a_nil)))))))) (e_bin op_mulLD (e_bin op_mulLD (e_lst (a_cons (e_cstS) (a_cons (e_cstS) (a_cons (e_cstS) (a_cons (e_cstS) (a_nil)))))) (e_bin op_subD (e_cstI) (e_bin op_mulD (e_cstI) (e_blt (c_min rfl) rfl B.b_min rfl (a_cons (e_slot (i := 3) rfl (by first | exact .inl rfl | exact .inr (.inl rfl) | exact .inr (.inr rfl))) (a_cons (e_cstI) (a_nil))))))) (e_bty c_int rfl B.b_int rfl (a_cons (e_cmp (op_neDd hu.u64) (e_slot (i := 7) rfl (by first | exact .inl rfl | exact .inr (.inl rfl) | exact .inr (.inr rfl))) (e_lst (a_nil)) (nomark _)) (a_nil)))))) (tS_seq (tS_par2 (i := 11) (oi := false) (j := 12) (oj := false) rfl nd rfl rfl (by decide) rfl rfl (e_callD D__law_pick (hr.mono (by decide)) gd rfl hp_of (a_cons (e_slot (i := 0) rfl (by first | exact .inl rfl | exact .inr (.inl rfl) | exact .inr (.inr rfl))) (a_cons (e_slot (i := 10) rfl (by first | exact .inl rfl | exact .inr (.inl rfl) | exact .inr (.inr rfl))) (a_nil)))) (e_callD D__law_pick (hr.mono (by decide)) gd rfl hp_of (a_cons (e_slot (i := 0) rfl (by first | exact .inl rfl | exact .inr (.inl rfl) | exact .inr (.inr rfl))) (a_cons (e_slot (i := 9) rfl (by first | exact .inl rfl | exact .inr (.inl rfl) | exact .inr (.inr rfl))) (a_nil)))) (by rfl)) (tS_seq (tS_if (t_cmp (op_eqDd hu.u64) (e_slot (i := 11) rfl (by first | exact .inl rfl | exact .inr (.inl rfl) | exact .inr (.inr rfl))) (e_cstS) (nomark _)) (tS_one (tS_ret (e_tup (a_cons (e_cstS) (a_cons (e_slot (i := 12) rfl (by first | exact .inl rfl | exact .inr (.inl rfl) | exact .inr (.inr rfl))) (a_nil)))))) (tS_nil)) (tS_seq (tS_if (t_cmp (op_eqDd hu.u64) (e_slot (i := 11) rfl (by first | exact .inl rfl | exact .inr (.inl rfl) | exact .inr (.inr rfl))) (e_cstS) (nomark _)) (tS_one (tS_ret (e_tup (a_cons (e_cstS) (a_cons (e_callD D__law_any (hr.mono (by decide)) gd rfl hp_of (a_cons (e_slot (i := 0) rfl (by first | exact .inl rfl | exact .inr (.inl rfl) | exact .inr (.inr rfl))) (a_nil))) (a_cons (e_slot (i := 12) rfl (by first | exact .inl rfl | exact .inr (.inl rfl) | exact .inr (.inr rfl))) (a_cons (e_callD D__law_pick (hr.mono (by decide)) gd rfl hp_of (a_cons (e_slot (i := 0) rfl (by first | exact .inl rfl | exact .inr (.inl rfl) | exact .inr (.inr rfl))) (a_cons (e_slot (i := 6) rfl (by first | exact .inl rfl | exact .inr (.inl rfl) | exact .inr (.inr rfl))) (a_nil)))) (a_nil)))))))) (tS_nil)) (tS_seq (tS_if (t_cmp (op_eqDd hu.u64) (e_slot (i := 11) rfl (by first | exact .inl rfl | exact .inr (.inl rfl) | exact .inr (.inr rfl))) (e_cstS) (nomark _)) (tS_one (tS_ret (e_tup (a_cons (e_cstS) (a_cons (e_callD D__law_small (hr.mono (by decide)) gd rfl hp_of (a_cons (e_slot (i := 0) rfl (by first | exact .inl rfl | exact .inr (.inl rfl) | exact .inr (.inr rfl))) (a_nil))) (a_cons (e_callD D__law_pick (hr.mono (by decide)) gd rfl hp_of (a_cons (e_slot (i := 0) rfl (by first | exact .inl rfl | exact .inr (.inl rfl) | exact .inr (.inr rfl))) (a_cons (e_sl (e_slot (i := 2) rfl (by first | exact .inl rfl | exact .inr (.inl rfl) | exact .inr (.inr rfl))) (.non) (.som (e_bin op_addD (e_slot (i := 3) rfl (by first | exact .inl rfl | exact .inr (.inl rfl) | exact .inr (.inr rfl))) (e_cstI)))) (a_nil)))) (a_cons (e_slot (i := 12) rfl (by first | exact .inl rfl | exact .inr (.inl rfl) | exact .inr (.inr rfl))) (a_nil)))))))) (tS_nil)) (tS_one (tS_ret (e_callD D__law_drawn_call (hr.mono (by decide)) gd rfl hp_of (a_cons (e_slot (i := 0) rfl (by first | exact .inl rfl | exact .inr (.inl rfl) | exact .inr (.inr rfl))) (a_cons (e_callD D__law_pick (hr.mono (by decide)) gd rfl hp_of (a_cons (e_slot (i := 0) rfl (by first | exact .inl rfl | exact .inr (.inl rfl) | exact .inr (.inr rfl))) (a_cons (e_slot (i := 7) rfl (by first | exact .inl rfl | exact .inr (.inl rfl) | exact .inr (.inr rfl))) (a_nil)))) (a_cons (e_slot (i := 12) rfl (by first | exact .inl rfl | exact .inr (.inl rfl) | exact .inr (.inr rfl))) (a_cons (e_ite (t_cmp (op_eqDd hu.u64) (e_slot (i := 11) rfl (by first | exact .inl rfl | exact .inr (.inl rfl) | exact .inr (.inr rfl))) (e_cstS) (nomark _)) (e_callD D__law_pick (hr.mono (by decide)) gd rfl hp_of (a_cons (e_slot (i := 0) rfl (by first | exact .inl rfl | exact .inr (.inl rfl) | exact .inr (.inr rfl))) (a_cons (e_slot (i := 6) rfl (by first | exact .inl rfl | exact .inr (.inl rfl) | exact .inr (.inr rfl))) (a_nil)))) (e_cstN)) (a_nil))))))))))))))))
theorem ok__law_drawn_end (B : Amb P w K mg base fa ca) (F : FunD K "_law_drawn_end" "_law_drawn_end" (defArgs s__law_drawn_end) (defBody s__law_drawn_end) (defScope s__law_drawn_end) [] [] (fa "_law_drawn_end") fd) (me : mg "_law_drawn_end" = some (.ref (fa "_law_drawn_end"))) (D__law_drawn_call : DefOk P w K mg base fa ca 5 "_law_drawn_call" 4 f__law_drawn_call) (D__law_pick : DefOk P w K mg base fa ca 3 "_law_pick" 2 f__law_pick) (D__law_small : DefOk P w K mg base fa ca 4 "_law_small" 1 f__law_small) (D__law_any : DefOk P w K mg base fa ca 4 "_law_any" 1 f__law_any) (D__law_random : DefOk P w K mg base fa ca 2 "_law_random" 2 f__law_random) :
    DefOk P w K mg base fa ca 6 "_law_drawn_end" 6 f__law_drawn_end :=
  ⟨⟨fd, ["generator", "style", "labels", "at", "known", "own"], okG__law_drawn_end B F me D__law_drawn_call D__law_pick D__law_small D__law_any D__law_random, F.kp, F.bindsN (fun _ _ _ _ _ _ us hl => match us, hl with | [_, _, _, _, _, _], _ => rfl), me, rfl⟩⟩
theorem okG__law_drawn_block (B : Amb P w K mg base fa ca) (F : FunD K "_law_drawn_block" "_law_drawn_block" (defArgs s__law_drawn_block) (defBody s__law_drawn_block) (defScope s__law_drawn_block) [] [] (fa "_law_drawn_block") fd) (me : mg "_law_drawn_block" = some (.ref (fa "_law_drawn_block"))) (D__law_drawn_end : DefOk P w K mg base fa ca 6 "_law_drawn_end" 6 f__law_drawn_end) (D__law_small : DefOk P w K mg base fa ca 4 "_law_small" 1 f__law_small) (D__law_random : DefOk P w K mg base fa ca 2 "_law_random" 2 f__law_random) (D__law_drawn_step : DefOk P w K mg base fa ca 5 "_law_drawn_step" 1 f__law_drawn_step) :
    FnG P w K mg base (L2.CX P w) 7 (fa "_law_drawn_block") fd ["generator", "style", "free", "labels", "at", "known", "own"] (spOf ⟨K, ⟨fa, P, w⟩, ca⟩ f__law_drawn_block) := by
  have nd : List.Nodup N__law_drawn_block := sc__law_drawn_block.nd
  refine def_ok (fa := fa) (ca := ca) (k := 6) (N := N__law_drawn_block) (ps := ["generator", "style", "free", "labels", "at", "known", "own"]) (m := m__law_drawn_block) F sc__law_drawn_block rfl (by decide) (fun cdv A outer s H E T hr gd => ?_)
  have hu := Hu.of hr
  exact tS_seq (tS_asgLc (i := 7) (o := false) (own := [("turn", 10)]) rfl nd rfl rfl (sw_true rfl rfl rfl (by decide +kernel)) (i_range1 rfl B.b_range (e_callD D__law_random (hr.mono (by decide)) gd rfl hp_of (a_cons (e_slot (i := 0) rfl (by first | exact .inl rfl | exact .inr (.inl rfl) | exact .inr (.inr rfl))) (a_cons (e_cstI) (a_nil))))) (blkOk_by (N := N__law_drawn_block) (sc := defScope s__law_drawn_block) (own := [("turn", 10)]) (by decide +kernel)) (fun _ _ _ _ _ => g_name (i := 10) nd rfl (by first | exact .inl rfl | exact .inr rfl)) (fun _ _ _ _ _ => ts_yes) (fun _ _ _ _ _ => e_callD D__law_drawn_step (hr.mono (by decide)) gd rfl passB (a_cons (e_slot (i := 0) rfl (by first | exact .inl rfl | exact .inr (.inl rfl) | exact .inr (.inr rfl))) (a_nil)))) (tS_seq (tS_if (PW.pt (w_and (t_cmp (op_eqDd hu.u64) (e_slot (i := 1) rfl (by first | exact .inl rfl | exact .inr (.inl rfl) | exact .inr (.inr rfl))) (e_cstI) (nomark _)) (w_and (t_cmp (op_eqDd hu.u64) (e_slot (i := 4) rfl (by first | exact .inl rfl | exact .inr (.inl rfl) | exact .inr (.inr rfl))) (e_cstI) (nomark _)) (w_and (t_cmp (op_gtD) (e_slot (i := 6) rfl (by first | exact .inl rfl | exact .inr (.inl rfl) | exact .inr (.inr rfl))) (e_cstI) (nomark _)) (pw_and1 (t_cmp (op_gtD) (e_blt c_len rfl B.b_len rfl (a_cons (e_slot (i := 3) rfl (by first | exact .inl rfl | exact .inr (.inl rfl) | exact .inr (.inr rfl))) (a_nil))) (e_cstI) (nomark _))))))) (tS_seq (tS_asg (i := 8) (own := false) nd rfl (by first | exact .inl rfl | exact .inr rfl) (e_callD D__law_small (hr.mono (by decide)) gd rfl hp_of (a_cons (e_slot (i := 0) rfl (by first | exact .inl rfl | exact .inr (.inl rfl) | exact .inr (.inr rfl))) (a_nil)))) (tS_one (tS_ret (e_tup (a_cons (e_ix2 hu.one (e_slot (i := 3) rfl (by first | exact .inl rfl | exact .inr (.inl rfl) | exact .inr (.inr rfl))) (e_cstI) (fun _ _ => rfl)) (a_cons (e_bin op_addD (e_slot (i := 7) rfl (by first | exact .inl rfl | exact .inr (.inl rfl) | exact .inr (.inr rfl))) (e_lst (a_cons (e_tup (a_cons (e_cstS) (a_cons (e_slot (i := 8) rfl (by first | exact .inl rfl | exact .inr (.inl rfl) | exact .inr (.inr rfl))) (a_nil)))) (a_nil)))) (a_cons (e_tup (a_cons (e_cstS) (a_cons (e_slot (i := 8) rfl (by first | exact .inl rfl | exact .inr (.inl rfl) | exact .inr (.inr rfl))) (a_cons (e_ix2 hu.one (e_slot (i := 3) rfl (by first | exact .inl rfl | exact .inr (.inl rfl) | exact .inr (.inr rfl))) (e_cstI) (fun _ _ => rfl)) (a_cons (e_ix2 hu.one (e_slot (i := 3) rfl (by first | exact .inl rfl | exact .inr (.inl rfl) | exact .inr (.inr rfl))) (e_neg e_cstI) (fun _ _ => rfl)) (a_nil)))))) (a_nil)))))))) (tS_nil)) (tS_seq (tS_asg (i := 9) (own := false) nd rfl (by first | exact .inl rfl | exact .inr rfl) (e_callD D__law_drawn_end (hr.mono (by decide)) gd rfl hp_of (a_cons (e_slot (i := 0) rfl (by first | exact .inl rfl | exact .inr (.inl rfl) | exact .inr (.inr rfl))) (a_cons (e_slot (i := 1) rfl (by first | exact .inl rfl | exact .inr (.inl rfl) | exact .inr (.inr rfl))) (a_cons (e_slot (i := 3) rfl (by first | exact .inl rfl | exact .inr (.inl rfl) | exact .inr (.inr rfl))) (a_cons (e_slot (i := 4) rfl (by first | exact .inl rfl | exact .inr (.inl rfl) | exact .inr (.inr rfl))) (a_cons (e_slot (i := 5) rfl (by first | exact .inl rfl | exact .inr (.inl rfl) | exact .inr (.inr rfl))) (a_cons (e_slot (i := 6) rfl (by first | exact .inl rfl | exact .inr (.inl rfl) | exact .inr (.inr rfl))) (a_nil))))))))) (tS_seq (tS_if (PW.pt (w_or (t_cmp (op_eqDd hu.u64) (e_ix2 hu.one (e_slot (i := 9) rfl (by first | exact .inl rfl | exact .inr (.inl rfl) | exact .inr (.inr rfl))) (e_cstI) (fun _ _ => rfl)) (e_cstS) (nomark _)) (pw_or1 (PW.pt (w_and (t_cmp (op_eqDd hu.u64) (e_ix2 hu.one (e_slot (i := 9) rfl (by first | exact .inl rfl | exact .inr (.inl rfl) | exact .inr (.inr rfl))) (e_cstI) (fun _ _ => rfl)) (e_cstS) (nomark _)) (pw_and1 (t_tru (e_slot (i := 2) rfl (by first | exact .inl rfl | exact .inr (.inl rfl) | exact .inr (.inr rfl))) (fun _ => rfl)))))))) (tS_one (tS_ret (e_tup (a_cons (e_ix2 hu.one (e_slot (i := 3) rfl (by first | exact .inl rfl | exact .inr (.inl rfl) | exact .inr (.inr rfl))) (e_slot (i := 4) rfl (by first | exact .inl rfl | exact .inr (.inl rfl) | exact .inr (.inr rfl))) (fun _ _ => rfl)) (a_cons (e_bin op_addD (e_slot (i := 7) rfl (by first | exact .inl rfl | exact .inr (.inl rfl) | exact .inr (.inr rfl))) (e_lst (a_cons (e_tup (a_cons (e_cstS) (a_cons (e_ix2 hu.one (e_slot (i := 9) rfl (by first | exact .inl rfl | exact .inr (.inl rfl) | exact .inr (.inr rfl))) (e_cstI) (fun _ _ => rfl)) (a_nil)))) (a_nil)))) (a_cons (e_bin op_addD (e_tup (a_cons (e_cstS) (a_nil))) (e_sl (e_slot (i := 9) rfl (by first | exact .inl rfl | exact .inr (.inl rfl) | exact .inr (.inr rfl))) (.som (e_cstI)) (.non))) (a_nil))))))) (tS_nil)) (tS_one (tS_ret (e_tup (a_cons (e_ix2 hu.one (e_slot (i := 3) rfl (by first | exact .inl rfl | exact .inr (.inl rfl) | exact .inr (.inr rfl))) (e_slot (i := 4) rfl (by first | exact .inl rfl | exact .inr (.inl rfl) | exact .inr (.inr rfl))) (fun _ _ => rfl)) (a_cons (e_slot (i := 7) rfl (by first | exact .inl rfl | exact .inr (.inl rfl) | exact .inr (.inr rfl))) (a_cons (e_slot (i := 9) rfl (by first | exact .inl rfl | exact .inr (.inl rfl) | exact .inr (.inr rfl))) (a_nil))))))))))
theorem ok__law_drawn_block (B : Amb P w K mg base fa ca) (F : FunD K "_law_drawn_block" "_law_drawn_block" (defArgs s__law_drawn_block) (defBody s__law_drawn_block) (defScope s__law_drawn_block) [] [] (fa "_law_drawn_block") fd) (me : mg "_law_drawn_block" = some (.ref (fa "_law_drawn_block"))) (D__law_drawn_end : DefOk P w K mg base fa ca 6 "_law_drawn_end" 6 f__law_drawn_end) (D__law_small : DefOk P w K mg base fa ca 4 "_law_small" 1 f__law_small) (D__law_random : DefOk P w K mg base fa ca 2 "_law_random" 2 f__law_random) (D__law_drawn_step : DefOk P w K mg base fa ca 5 "_law_drawn_step" 1 f__law_drawn_step) :
    DefOk P w K mg base fa ca 7 "_law_drawn_block" 7 f__law_drawn_block :=
  ⟨⟨fd, ["generator", "style", "free", "labels", "at", "known", "own"], okG__law_drawn_block B F me D__law_drawn_end D__law_small D__law_random D__law_drawn_step, F.kp, F.bindsN (fun _ _ _ _ _ _ us hl => match us, hl with | [_, _, _, _, _, _, _], _ => rfl), me, rfl⟩⟩
theorem okG__law_drawn_program (B : Amb P w K mg base fa ca) (F : FunD K "_law_drawn_program" "_law_drawn_program" (defArgs s__law_drawn_program) (defBody s__law_drawn_program) (defScope s__law_drawn_program) [] [] (fa "_law_drawn_program") fd) (me : mg "_law_drawn_program" = some (.ref (fa "_law_drawn_program"))) (D__law_drawn_block : DefOk P w K mg base fa ca 7 "_law_drawn_block" 7 f__law_drawn_block) (D__law_random : DefOk P w K mg base fa ca 2 "_law_random" 2 f__law_random) (D__law_drawn_order : DefOk P w K mg base fa ca 3 "_law_drawn_order" 2 f__law_drawn_order) :
    FnG P w K mg base (L2.CX P w) 8 (fa "_law_drawn_program") fd ["generator", "functions", "blocks", "free"] (spOf ⟨K, ⟨fa, P, w⟩, ca⟩ f__law_drawn_program) := by
  have nd : List.Nodup N__law_drawn_program := sc__law_drawn_program.nd
  refine def_ok (fa := fa) (ca := ca) (k := 7) (N := N__law_drawn_program) (ps := ["generator", "functions", "blocks", "free"]) (m := m__law_drawn_program) F sc__law_drawn_program rfl (by decide) (fun cdv A outer s H E T hr gd => ?_)
  have hu := Hu.of hr
  exact tS_seq (tS_par3c (i := 4) (oi := false) (j := 5) (oj := true) (l := 6) (ol := true) rfl nd rfl rfl rfl (by first | exact .inl rfl | exact .inr rfl) (by first | exact .inl rfl | exact .inr rfl) (by first | exact .inl rfl | exact .inr rfl) (by first | exact .inl rfl | exact .inr rfl) (by first | exact .inl rfl | exact .inr rfl) (by first | exact .inl rfl | exact .inr rfl) (e_callD D__law_random (hr.mono (by decide)) gd rfl hp_of (a_cons (e_slot (i := 0) rfl (by first | exact .inl rfl | exact .inr (.inl rfl) | exact .inr (.inr rfl))) (a_cons (e_cstI) (a_nil)))) (e_lst (a_nil)) (e_lst (a_nil)) (by rfl)) (tS_seq (tS_asg (i := 7) (own := false) nd rfl (by first | exact .inl rfl | exact .inr rfl) (e_ite (t_cmp (op_gtD) (e_callD D__law_random (hr.mono (by decide)) gd rfl hp_of (a_cons (e_slot (i := 0) rfl (by first | exact .inl rfl | exact .inr (.inl rfl) | exact .inr (.inr rfl))) (a_cons (e_cstI) (a_nil)))) (e_cstI) (nomark _)) (e_slot (i := 1) rfl (by first | exact .inl rfl | exact .inr (.inl rfl) | exact .inr (.inr rfl))) (e_bin op_addD (e_cstI) (e_callD D__law_random (hr.mono (by decide)) gd rfl hp_of (a_cons (e_slot (i := 0) rfl (by first | exact .inl rfl | exact .inr (.inl rfl) | exact .inr (.inr rfl))) (a_cons (e_slot (i := 1) rfl (by first | exact .inl rfl | exact .inr (.inl rfl) | exact .inr (.inr rfl))) (a_nil))))))) (tS_seq (tS_for hpo_of rfl (i_seq (e_sl (e_callD D__law_drawn_order (hr.mono (by decide)) gd rfl hp_of (a_cons (e_slot (i := 0) rfl (by first | exact .inl rfl | exact .inr (.inl rfl) | exact .inr (.inr rfl))) (a_cons (e_lst (a_cons (e_cstS) (a_cons (e_cstS) (a_cons (e_cstS) (a_cons (e_cstS) (a_nil)))))) (a_nil)))) (.non) (.som (e_slot (i := 7) rfl (by first | exact .inl rfl | exact .inr (.inl rfl) | exact .inr (.inr rfl)))))) (g_name (i := 8) nd rfl (by first | exact .inl rfl | exact .inr rfl)) (tS_one (tS_expr (e_append (pe_var (i := 5) rfl (by first | exact .inl rfl | exact .inr (.inl rfl) | exact .inr (.inr rfl))) (a_cons (e_tup (a_cons (e_slot (i := 8) rfl (by first | exact .inl rfl | exact .inr (.inl rfl) | exact .inr (.inr rfl))) (a_cons (e_sl (e_callD D__law_drawn_order (hr.mono (by decide)) gd rfl hp_of (a_cons (e_slot (i := 0) rfl (by first | exact .inl rfl | exact .inr (.inl rfl) | exact .inr (.inr rfl))) (a_cons (e_lst (a_cons (e_cstS) (a_cons (e_cstS) (a_cons (e_cstS) (a_cons (e_cstS) (a_nil)))))) (a_nil)))) (.non) (.som (e_callD D__law_random (hr.mono (by decide)) gd rfl hp_of (a_cons (e_slot (i := 0) rfl (by first | exact .inl rfl | exact .inr (.inl rfl) | exact .inr (.inr rfl))) (a_cons (e_cstI) (a_nil)))))) (a_nil)))) (a_nil)))))) (tS_seq (tS_for hpo_of rfl (i_range1 rfl B.b_range (e_blt c_len rfl B.b_len rfl (a_cons (e_frz (i := 5) rfl (by first | exact .inl rfl | exact .inr (.inl rfl) | exact .inr (.inr rfl))) (a_nil)))) (g_name (i := 9) nd rfl (by first | exact .inl rfl | exact .inr rfl)) (tS_seq (tS_asg (i := 10) (own := false) nd rfl (by first | exact .inl rfl | exact .inr rfl) (e_callD D__law_drawn_order (hr.mono (by decide)) gd rfl hp_of (a_cons (e_slot (i := 0) rfl (by first | exact .inl rfl | exact .inr (.inl rfl) | exact .inr (.inr rfl))) (a_cons (e_lst (a_cons (e_cstS) (a_cons (e_cstS) (a_cons (e_cstS) (a_cons (e_cstS) (a_cons (e_cstS) (a_cons (e_cstS) (a_cons (e_cstS) (a_cons (e_cstS) (a_nil)))))))))) (a_nil))))) (tS_seq (tS_asg (i := 11) (own := false) nd rfl (by first | exact .inl rfl | exact .inr rfl) (e_ix2 hu.one (e_lst (a_cons (e_cstI) (a_cons (e_cstI) (a_cons (e_cstI) (a_cons (e_cstI) (a_cons (e_cstI) (a_cons (e_cstI) (a_cons (e_cstI) (a_cons (e_cstI) (a_cons (e_cstI) (a_cons (e_cstI) (a_cons (e_cstI) (a_cons (e_cstI) (a_nil)))))))))))))) (e_callD D__law_random (hr.mono (by decide)) gd rfl hp_of (a_cons (e_slot (i := 0) rfl (by first | exact .inl rfl | exact .inr (.inl rfl) | exact .inr (.inr rfl))) (a_cons (e_cstI) (a_nil)))) (fun _ _ => rfl))) (tS_seq (tS_asg (i := 10) (own := false) nd rfl (by first | exact .inl rfl | exact .inr rfl) (e_sl (e_slot (i := 10) rfl (by first | exact .inl rfl | exact .inr (.inl rfl) | exact .inr (.inr rfl))) (.non) (.som (e_blt (c_min rfl) rfl B.b_min rfl (a_cons (e_slot (i := 2) rfl (by first | exact .inl rfl | exact .inr (.inl rfl) | exact .inr (.inr rfl))) (a_cons (e_blt (c_max rfl) rfl B.b_max rfl (a_cons (e_ite (t_cmp (op_eqDd hu.u64) (e_slot (i := 11) rfl (by first | exact .inl rfl | exact .inr (.inl rfl) | exact .inr (.inr rfl))) (e_cstI) (nomark _)) (e_cstI) (e_cstI)) (a_cons (e_bin op_subD (e_slot (i := 2) rfl (by first | exact .inl rfl | exact .inr (.inl rfl) | exact .inr (.inr rfl))) (e_slot (i := 11) rfl (by first | exact .inl rfl | exact .inr (.inl rfl) | exact .inr (.inr rfl)))) (a_nil)))) (a_nil))))))) (tS_seq (tS_asgLc (i := 12) (o := false) (own := [("at", 13)]) rfl nd rfl rfl (sw_true rfl rfl rfl (by decide +kernel)) (i_range1 rfl B.b_range (e_blt c_len rfl B.b_len rfl (a_cons (e_slot (i := 10) rfl (by first | exact .inl rfl | exact .inr (.inl rfl) | exact .inr (.inr rfl))) (a_nil)))) (blkOk_by (N := N__law_drawn_program) (sc := defScope s__law_drawn_program) (own := [("at", 13)]) (by decide +kernel)) (fun _ _ _ _ _ => g_name (i := 13) nd rfl (by first | exact .inl rfl | exact .inr rfl)) (fun _ _ _ _ _ => ts_yes) (fun _ _ _ _ _ => e_callD D__law_drawn_block (hr.mono (by decide)) gd rfl passB (a_cons (e_slot (i := 0) rfl (by first | exact .inl rfl | exact .inr (.inl rfl) | exact .inr (.inr rfl))) (a_cons (e_slot (i := 4) rfl (by first | exact .inl rfl | exact .inr (.inl rfl) | exact .inr (.inr rfl))) (a_cons (e_slot (i := 3) rfl (by first | exact .inl rfl | exact .inr (.inl rfl) | exact .inr (.inr rfl))) (a_cons (e_slot (i := 10) rfl (by first | exact .inl rfl | exact .inr (.inl rfl) | exact .inr (.inr rfl))) (a_cons (e_slot (i := 13) rfl (by first | exact .inl rfl | exact .inr (.inl rfl) | exact .inr (.inr rfl))) (a_cons (e_frz (i := 5) rfl (by first | exact .inl rfl | exact .inr (.inl rfl) | exact .inr (.inr rfl))) (a_cons (e_slot (i := 9) rfl (by first | exact .inl rfl | exact .inr (.inl rfl) | exact .inr (.inr rfl))) (a_nil)))))))))) (tS_one (tS_expr (e_append (pe_var (i := 6) rfl (by first | exact .inl rfl | exact .inr (.inl rfl) | exact .inr (.inr rfl))) (a_cons (e_tup (a_cons (e_ix2 hu.one (e_ix2 hu.one (e_frz (i := 5) rfl (by first | exact .inl rfl | exact .inr (.inl rfl) | exact .inr (.inr rfl))) (e_slot (i := 9) rfl (by first | exact .inl rfl | exact .inr (.inl rfl) | exact .inr (.inr rfl))) (fun _ _ => rfl)) (e_cstI) (fun _ _ => rfl)) (a_cons (e_bty c_list rfl B.b_list rfl (a_cons (e_ix2 hu.one (e_ix2 hu.one (e_frz (i := 5) rfl (by first | exact .inl rfl | exact .inr (.inl rfl) | exact .inr (.inr rfl))) (e_slot (i := 9) rfl (by first | exact .inl rfl | exact .inr (.inl rfl) | exact .inr (.inr rfl))) (fun _ _ => rfl)) (e_cstI) (fun _ _ => rfl)) (a_nil))) (a_cons (e_slot (i := 12) rfl (by first | exact .inl rfl | exact .inr (.inl rfl) | exact .inr (.inr rfl))) (a_nil))))) (a_nil)))))))))) (tS_one (tS_ret (e_tup (a_cons (e_cstS) (a_cons (e_frz (i := 6) rfl (by first | exact .inl rfl | exact .inr (.inl rfl) | exact .inr (.inr rfl))) (a_nil)))))))))
theorem ok__law_drawn_program (B : Amb P w K mg base fa ca) (F : FunD K "_law_drawn_program" "_law_drawn_program" (defArgs s__law_drawn_program) (defBody s__law_drawn_program) (defScope s__law_drawn_program) [] [] (fa "_law_drawn_program") fd) (me : mg "_law_drawn_program" = some (.ref (fa "_law_drawn_program"))) (D__law_drawn_block : DefOk P w K mg base fa ca 7 "_law_drawn_block" 7 f__law_drawn_block) (D__law_random : DefOk P w K mg base fa ca 2 "_law_random" 2 f__law_random) (D__law_drawn_order : DefOk P w K mg base fa ca 3 "_law_drawn_order" 2 f__law_drawn_order) :
    DefOk P w K mg base fa ca 8 "_law_drawn_program" 4 f__law_drawn_program :=
  ⟨⟨fd, ["generator", "functions", "blocks", "free"], okG__law_drawn_program B F me D__law_drawn_block D__law_random D__law_drawn_order, F.kp, F.bindsN (fun _ _ _ _ _ _ us hl => match us, hl with | [_, _, _, _], _ => rfl), me, rfl⟩⟩
theorem okG__law_target (B : Amb P w K mg base fa ca) (F : FunD K "_law_target" "_law_target" (defArgs s__law_target) (defBody s__law_target) (defScope s__law_target) [] [] (fa "_law_target") fd) (me : mg "_law_target" = some (.ref (fa "_law_target")))  :
    FnG P w K mg base (L2.CX P w) 1 (fa "_law_target") fd ["end", "way"] (spOf ⟨K, ⟨fa, P, w⟩, ca⟩ f__law_target) := by
  have nd : List.Nodup N__law_target := sc__law_target.nd
  refine def_ok (fa := fa) (ca := ca) (k := 0) (N := N__law_target) (ps := ["end", "way"]) (m := m__law_target) F sc__law_target rfl (by decide) (fun cdv A outer s H E T hr gd => ?_)
  have hu := Hu.of hr
  exact tS_seq (tS_if (t_cmp (op_inDX hu.u65) (e_slot (i := 1) rfl (by first | exact .inl rfl | exact .inr (.inl rfl) | exact .inr (.inr rfl))) (e_lst (a_cons (e_cstS) (a_cons (e_cstS) (a_nil)))) (by with_unfolding_all rfl)) (tS_one (tS_ret (e_ite (t_cmp (op_eqDd hu.u64) (e_slot (i := 1) rfl (by first | exact .inl rfl | exact .inr (.inl rfl) | exact .inr (.inr rfl))) (e_cstS) (nomark _)) (e_ix2 hu.one (e_slot (i := 0) rfl (by first | exact .inl rfl | exact .inr (.inl rfl) | exact .inr (.inr rfl))) (e_cstI) (fun _ _ => rfl)) (e_ix2 hu.one (e_slot (i := 0) rfl (by first | exact .inl rfl | exact .inr (.inl rfl) | exact .inr (.inr rfl))) (e_cstI) (fun _ _ => rfl))))) (tS_nil)) (tS_seq (tS_if (t_cmp (op_eqDd hu.u64) (e_slot (i := 1) rfl (by first | exact .inl rfl | exact .inr (.inl rfl) | exact .inr (.inr rfl))) (e_cstS) (nomark _)) (tS_one (tS_ret (e_ix2 hu.one (e_slot (i := 0) rfl (by first | exact .inl rfl | exact .inr (.inl rfl) | exact .inr (.inr rfl))) (e_cstI) (fun _ _ => rfl)))) (tS_nil)) (tS_seq (tS_if (t_cmp (op_eqDd hu.u64) (e_slot (i := 1) rfl (by first | exact .inl rfl | exact .inr (.inl rfl) | exact .inr (.inr rfl))) (e_cstS) (nomark _)) (tS_one (tS_ret (e_ix2 hu.one (e_slot (i := 0) rfl (by first | exact .inl rfl | exact .inr (.inl rfl) | exact .inr (.inr rfl))) (e_cstI) (fun _ _ => rfl)))) (tS_nil)) (tS_one (tS_ret (e_ite (PW.pt (w_and (t_cmp (op_eqDd hu.u64) (e_slot (i := 1) rfl (by first | exact .inl rfl | exact .inr (.inl rfl) | exact .inr (.inr rfl))) (e_cstS) (nomark _)) (pw_and1 (t_cmp (op_eqDd hu.u64) (e_ix2 hu.one (e_slot (i := 0) rfl (by first | exact .inl rfl | exact .inr (.inl rfl) | exact .inr (.inr rfl))) (e_cstI) (fun _ _ => rfl)) (e_cstS) (nomark _))))) (e_ix2 hu.one (e_slot (i := 0) rfl (by first | exact .inl rfl | exact .inr (.inl rfl) | exact .inr (.inr rfl))) (e_cstI) (fun _ _ => rfl)) (e_cstN))))))
theorem ok__law_target (B : Amb P w K mg base fa ca) (F : FunD K "_law_target" "_law_target" (defArgs s__law_target) (defBody s__law_target) (defScope s__law_target) [] [] (fa "_law_target") fd) (me : mg "_law_target" = some (.ref (fa "_law_target")))  :
    DefOk P w K mg base fa ca 1 "_law_target" 2 f__law_target :=
  ⟨⟨fd, ["end", "way"], okG__law_target B F me , F.kp, F.bindsN (fun _ _ _ _ _ _ us hl => match us, hl with | [_, _], _ => rfl), me, rfl⟩⟩
theorem okG__law_ways (B : Amb P w K mg base fa ca) (F : FunD K "_law_ways" "_law_ways" (defArgs s__law_ways) (defBody s__law_ways) (defScope s__law_ways) [] [] (fa "_law_ways") fd) (me : mg "_law_ways" = some (.ref (fa "_law_ways")))  :
    FnG P w K mg base (L2.CX P w) 1 (fa "_law_ways") fd ["end"] (spOf ⟨K, ⟨fa, P, w⟩, ca⟩ f__law_ways) := by
  have nd : List.Nodup N__law_ways := sc__law_ways.nd
  refine def_ok (fa := fa) (ca := ca) (k := 0) (N := N__law_ways) (ps := ["end"]) (m := m__law_ways) F sc__law_ways rfl (by decide) (fun cdv A outer s H E T hr gd => ?_)
  have hu := Hu.of hr
  exact tS_seq (tS_if (t_cmp (op_inDX hu.u65) (e_ix2 hu.one (e_slot (i := 0) rfl (by first | exact .inl rfl | exact .inr (.inl rfl) | exact .inr (.inr rfl))) (e_cstI) (fun _ _ => rfl)) (e_lst (a_cons (e_cstS) (a_cons (e_cstS) (a_nil)))) (by with_unfolding_all rfl)) (tS_one (tS_ret (e_lst (a_cons (e_cstS) (a_cons (e_cstS) (a_cons (e_cstS) (a_nil))))))) (tS_nil)) (tS_one (tS_ret (e_ite (t_cmp (op_eqDd hu.u64) (e_ix2 hu.one (e_slot (i := 0) rfl (by first | exact .inl rfl | exact .inr (.inl rfl) | exact .inr (.inr rfl))) (e_cstI) (fun _ _ => rfl)) (e_cstS) (nomark _)) (e_lst (a_cons (e_cstS) (a_cons (e_cstS) (a_nil)))) (e_lst (a_cons (e_ix2 hu.one (e_slot (i := 0) rfl (by first | exact .inl rfl | exact .inr (.inl rfl) | exact .inr (.inr rfl))) (e_cstI) (fun _ _ => rfl)) (a_nil))))))
theorem ok__law_ways (B : Amb P w K mg base fa ca) (F : FunD K "_law_ways" "_law_ways" (defArgs s__law_ways) (defBody s__law_ways) (defScope s__law_ways) [] [] (fa "_law_ways") fd) (me : mg "_law_ways" = some (.ref (fa "_law_ways")))  :
    DefOk P w K mg base fa ca 1 "_law_ways" 1 f__law_ways :=
  ⟨⟨fd, ["end"], okG__law_ways B F me , F.kp, F.bindsN (fun _ _ _ _ _ _ us hl => match us, hl with | [_], _ => rfl), me, rfl⟩⟩
theorem okG__law_refused (B : Amb P w K mg base fa ca) (F : FunD K "_law_refused" "_law_refused" (defArgs s__law_refused) (defBody s__law_refused) (defScope s__law_refused) [] [] (fa "_law_refused") fd) (me : mg "_law_refused" = some (.ref (fa "_law_refused"))) (D_led_to : DefOk P w K mg base fa ca 12 "led_to" 2 f_led_to) :
    FnG P w K mg base (L2.CX P w) 13 (fa "_law_refused") fd ["program", "bad"] (spOf ⟨K, ⟨fa, P, w⟩, ca⟩ f__law_refused) := by
  have nd : List.Nodup N__law_refused := sc__law_refused.nd
  refine def_ok (fa := fa) (ca := ca) (k := 12) (N := N__law_refused) (ps := ["program", "bad"]) (m := m__law_refused) F sc__law_refused rfl (by decide) (fun cdv A outer s H E T hr gd => ?_)
  have hu := Hu.of hr
  exact tS_seq (tS_asg (i := 2) (own := false) nd rfl (by first | exact .inl rfl | exact .inr rfl) (e_cstN)) (tS_seq (tS_try (t := "") (Wout := WU E) (i := 3) (j := 2) rfl rfl nd rfl rfl rfl B.c_InvalidEdge B.f_InvalidEdge tk_of (by decide) (fun W pn xe tk po => tS_one (tS_expr (e_callD D_led_to (hr.mono (by decide)) gd rfl (fun σ => passAt tk σ) (a_cons (e_slot (i := 0) rfl (by first | exact .inl rfl | exact .inr (.inl rfl) | exact .inr (.inr rfl))) (a_cons (e_slot (i := 1) rfl (by first | exact .inl rfl | exact .inr (.inl rfl) | exact .inr (.inr rfl))) (a_nil)))))) (fun a oe cls d pn hz hfl => tS_suiteL nd rfl rfl (by decide) (by first | exact .inl rfl | exact .inr rfl) (by first | exact .inl rfl | exact .inr rfl) B.f_InvalidEdge (by first | exact .inl rfl | exact .inr (.inl rfl) | exact .inr (.inr rfl)) hz hfl)) (tS_one (tS_ret (e_cmp (op_eqDd hu.u64) (e_blt (c_reprE B.sm hu.u110 gd) rfl B.b_repr rfl (a_cons (e_slot (i := 2) rfl (by first | exact .inl rfl | exact .inr (.inl rfl) | exact .inr (.inr rfl))) (a_nil))) (e_blt (c_reprE B.sm hu.u110 gd) rfl B.b_repr rfl (a_cons (e_lst (a_cons (e_slot (i := 1) rfl (by first | exact .inl rfl | exact .inr (.inl rfl) | exact .inr (.inr rfl))) (a_nil))) (a_nil))) (nomark _)))))
theorem ok__law_refused (B : Amb P w K mg base fa ca) (F : FunD K "_law_refused" "_law_refused" (defArgs s__law_refused) (defBody s__law_refused) (defScope s__law_refused) [] [] (fa "_law_refused") fd) (me : mg "_law_refused" = some (.ref (fa "_law_refused"))) (D_led_to : DefOk P w K mg base fa ca 12 "led_to" 2 f_led_to) :
    DefOk P w K mg base fa ca 13 "_law_refused" 2 f__law_refused :=
  ⟨⟨fd, ["program", "bad"], okG__law_refused B F me D_led_to, F.kp, F.bindsN (fun _ _ _ _ _ _ us hl => match us, hl with | [_, _], _ => rfl), me, rfl⟩⟩
theorem okG_law (B : Amb P w K mg base fa ca) (F : FunD K "law" "law" (defArgs s_law) (defBody s_law) (defScope s_law) [] [] (fa "law") fd) (me : mg "law" = some (.ref (fa "law"))) (D__law_refused : DefOk P w K mg base fa ca 13 "_law_refused" 2 f__law_refused) (D__law_random : DefOk P w K mg base fa ca 2 "_law_random" 2 f__law_random) (D_led_to : DefOk P w K mg base fa ca 12 "led_to" 2 f_led_to) (D_edges : DefOk P w K mg base fa ca 12 "edges" 1 f_edges) (D__law_ways : DefOk P w K mg base fa ca 1 "_law_ways" 1 f__law_ways) (D__law_target : DefOk P w K mg base fa ca 1 "_law_target" 2 f__law_target) (D__law_drawn_program : DefOk P w K mg base fa ca 8 "_law_drawn_program" 4 f__law_drawn_program) (D__law_generator : DefOk P w K mg base fa ca 2 "_law_generator" 2 f__law_generator) (KW_led_to : KwOk P w K mg base fa ca 12 "led_to" ["edge", "program"] [1, 0] f_led_to) (KW_edges : KwOk P w K mg base fa ca 12 "edges" ["program"] [0] f_edges) :
    FnG P w K mg base (L2.CX P w) 14 (fa "law") fd ["script"] (spOf ⟨K, ⟨fa, P, w⟩, ca⟩ f_law) := by
  have nd : List.Nodup N_law := sc_law.nd
  refine def_ok (fa := fa) (ca := ca) (k := 13) (N := N_law) (ps := ["script"]) (m := m_law) F sc_law rfl (by decide) (fun cdv A outer s H E T hr gd => ?_)
  have hu := Hu.of hr
  exact tS_seq (tS_asg (i := 1) (own := true) nd rfl (by first | exact .inl rfl | exact .inr rfl) (e_callD D__law_generator (hr.mono (by decide)) gd rfl hp_of (a_cons (e_slot (i := 0) rfl (by first | exact .inl rfl | exact .inr (.inl rfl) | exact .inr (.inr rfl))) (a_cons (e_cstI) (a_nil))))) (tS_seq (tS_asg (i := 2) (own := false) nd rfl (by first | exact .inl rfl | exact .inr rfl) (e_callD D__law_drawn_program (hr.mono (by decide)) gd rfl hp_of (a_cons (e_slot (i := 1) rfl (by first | exact .inl rfl | exact .inr (.inl rfl) | exact .inr (.inr rfl))) (a_cons (e_cstI) (a_cons (e_cstI) (a_cons (e_cstB) (a_nil))))))) (tS_seq (tS_par3c (i := 3) (oi := false) (j := 4) (oj := true) (l := 5) (ol := true) rfl nd rfl rfl rfl (by first | exact .inl rfl | exact .inr rfl) (by first | exact .inl rfl | exact .inr rfl) (by first | exact .inl rfl | exact .inr rfl) (by first | exact .inl rfl | exact .inr rfl) (by first | exact .inl rfl | exact .inr rfl) (by first | exact .inl rfl | exact .inr rfl) (e_blt (c_reprE B.sm hu.u110 gd) rfl B.b_repr rfl (a_cons (e_slot (i := 2) rfl (by first | exact .inl rfl | exact .inr (.inl rfl) | exact .inr (.inr rfl))) (a_nil))) (e_lst (a_nil)) (e_lst (a_nil)) (by rfl)) (tS_seq (tS_for hpo_of rfl (i_seq (e_ix2 hu.one (e_slot (i := 2) rfl (by first | exact .inl rfl | exact .inr (.inl rfl) | exact .inr (.inr rfl))) (e_cstI) (fun _ _ => rfl))) (g_tup rfl (gs_cons (g_name (i := 6) nd rfl (by first | exact .inl rfl | exact .inr rfl)) (gs_cons (g_name (i := 7) nd rfl (by first | exact .inl rfl | exact .inr rfl)) (gs_cons (g_name (i := 8) nd rfl (by first | exact .inl rfl | exact .inr rfl)) (gs_nil))))) (tS_one (tS_for hpo_of rfl (i_seq (e_slot (i := 8) rfl (by first | exact .inl rfl | exact .inr (.inl rfl) | exact .inr (.inr rfl)))) (g_tup rfl (gs_cons (g_name (i := 9) nd rfl (by first | exact .inl rfl | exact .inr rfl)) (gs_cons (g_name (i := 10) nd rfl (by first | exact .inl rfl | exact .inr rfl)) (gs_cons (g_name (i := 11) nd rfl (by first | exact .inl rfl | exact .inr rfl)) (gs_nil))))) (tS_one (tS_for hpo_of rfl (i_seq (e_callD D__law_ways (hr.mono (by decide)) gd rfl hp_of (a_cons (e_slot (i := 11) rfl (by first | exact .inl rfl | exact .inr (.inl rfl) | exact .inr (.inr rfl))) (a_nil)))) (g_name (i := 12) nd rfl (by first | exact .inl rfl | exact .inr rfl)) (tS_seq (tS_expr (e_append (pe_var (i := 4) rfl (by first | exact .inl rfl | exact .inr (.inl rfl) | exact .inr (.inr rfl))) (a_cons (e_tup (a_cons (e_slot (i := 6) rfl (by first | exact .inl rfl | exact .inr (.inl rfl) | exact .inr (.inr rfl))) (a_cons (e_slot (i := 9) rfl (by first | exact .inl rfl | exact .inr (.inl rfl) | exact .inr (.inr rfl))) (a_cons (e_slot (i := 12) rfl (by first | exact .inl rfl | exact .inr (.inl rfl) | exact .inr (.inr rfl))) (a_nil))))) (a_nil)))) (tS_seq (tS_asg (i := 13) (own := false) nd rfl (by first | exact .inl rfl | exact .inr rfl) (e_callD D__law_target (hr.mono (by decide)) gd rfl hp_of (a_cons (e_slot (i := 11) rfl (by first | exact .inl rfl | exact .inr (.inl rfl) | exact .inr (.inr rfl))) (a_cons (e_slot (i := 12) rfl (by first | exact .inl rfl | exact .inr (.inl rfl) | exact .inr (.inr rfl))) (a_nil))))) (tS_seq (tS_asgLc (i := 14) (o := false) (own := [("function", 21)]) rfl nd rfl rfl (sw_true rfl rfl rfl (by decide +kernel)) (i_seq (e_ix2 hu.one (e_slot (i := 2) rfl (by first | exact .inl rfl | exact .inr (.inl rfl) | exact .inr (.inr rfl))) (e_cstI) (fun _ _ => rfl))) (blkOk_by (N := N_law) (sc := defScope s_law) (own := [("function", 21)]) (by decide +kernel)) (fun _ _ _ _ _ => g_name (i := 21) nd rfl (by first | exact .inl rfl | exact .inr rfl)) (fun _ _ _ _ _ => ts_one (PW.pt (w_and (t_cmp (op_eqDd hu.u64) (e_slot (i := 12) rfl (by first | exact .inl rfl | exact .inr (.inl rfl) | exact .inr (.inr rfl))) (e_cstS) (nomark _)) (pw_and1 (t_cmp (op_eqDd hu.u64) (e_ix2 hu.one (e_slot (i := 21) rfl (by first | exact .inl rfl | exact .inr (.inl rfl) | exact .inr (.inr rfl))) (e_cstI) (fun _ _ => rfl)) (e_ix2 hu.one (e_slot (i := 11) rfl (by first | exact .inl rfl | exact .inr (.inl rfl) | exact .inr (.inr rfl))) (e_cstI) (fun _ _ => rfl)) (nomark _)))))) (fun _ _ _ _ _ => e_ix2 hu.one (e_ix2 hu.one (e_ix2 hu.one (e_slot (i := 21) rfl (by first | exact .inl rfl | exact .inr (.inl rfl) | exact .inr (.inr rfl))) (e_cstI) (fun _ _ => rfl)) (e_cstI) (fun _ _ => rfl)) (e_cstI) (fun _ _ => rfl))) (tS_one (tS_expr (e_append (pe_var (i := 5) rfl (by first | exact .inl rfl | exact .inr (.inl rfl) | exact .inr (.inr rfl))) (a_cons (e_ite (t_cmp (op_eqDd hu.u64) (e_slot (i := 12) rfl (by first | exact .inl rfl | exact .inr (.inl rfl) | exact .inr (.inr rfl))) (e_cstS) (nomark _)) (e_tup (a_cons (e_ix2 hu.one (e_slot (i := 11) rfl (by first | exact .inl rfl | exact .inr (.inl rfl) | exact .inr (.inr rfl))) (e_cstI) (fun _ _ => rfl)) (a_cons (e_ix2 hu.one (e_slot (i := 14) rfl (by first | exact .inl rfl | exact .inr (.inl rfl) | exact .inr (.inr rfl))) (e_cstI) (fun _ _ => rfl)) (a_nil)))) (e_ite (t_cmp (op_isDd) (e_slot (i := 13) rfl (by first | exact .inl rfl | exact .inr (.inl rfl) | exact .inr (.inr rfl))) (e_cstN) (nomark _)) (e_cstN) (e_tup (a_cons (e_slot (i := 6) rfl (by first | exact .inl rfl | exact .inr (.inl rfl) | exact .inr (.inr rfl))) (a_cons (e_slot (i := 13) rfl (by first | exact .inl rfl | exact .inr (.inl rfl) | exact .inr (.inr rfl))) (a_nil)))))) (a_nil))))))))))))) (tS_seq (tS_asg (i := 15) (own := true) nd rfl (by first | exact .inl rfl | exact .inr rfl) (e_callD D_edges (hr.mono (by decide)) gd rfl hp_of (a_cons (e_slot (i := 2) rfl (by first | exact .inl rfl | exact .inr (.inl rfl) | exact .inr (.inr rfl))) (a_nil)))) (tS_seq (tS_if (PW.pt (w_or (t_cmp (op_neDd hu.u64) (e_blt (c_reprE B.sm hu.u110 gd) rfl B.b_repr rfl (a_cons (e_slot (i := 15) rfl (by first | exact .inl rfl | exact .inr (.inl rfl) | exact .inr (.inr rfl))) (a_nil))) (e_blt (c_reprE B.sm hu.u110 gd) rfl B.b_repr rfl (a_cons (e_frz (i := 4) rfl (by first | exact .inl rfl | exact .inr (.inl rfl) | exact .inr (.inr rfl))) (a_nil))) (nomark _)) (pw_or1 (t_cmp (op_neDd hu.u64) (e_blt (c_reprE B.sm hu.u110 gd) rfl B.b_repr rfl (a_cons (e_lc (own := [("edge", 20)]) rfl nd (i_seq (e_frz (i := 4) rfl (by first | exact .inl rfl | exact .inr (.inl rfl) | exact .inr (.inr rfl)))) (blkOk_by (N := N_law) (sc := defScope s_law) (own := [("edge", 20)]) (by decide +kernel)) (fun _ _ _ _ _ => g_name (i := 20) nd rfl (by first | exact .inl rfl | exact .inr rfl)) (fun _ _ _ _ _ => ts_yes) (fun _ _ _ _ _ => e_callD D_led_to (hr.mono (by decide)) gd rfl passB (a_cons (e_slot (i := 2) rfl (by first | exact .inl rfl | exact .inr (.inl rfl) | exact .inr (.inr rfl))) (a_cons (e_slot (i := 20) rfl (by first | exact .inl rfl | exact .inr (.inl rfl) | exact .inr (.inr rfl))) (a_nil))))) (a_nil))) (e_blt (c_reprE B.sm hu.u110 gd) rfl B.b_repr rfl (a_cons (e_frz (i := 5) rfl (by first | exact .inl rfl | exact .inr (.inl rfl) | exact .inr (.inr rfl))) (a_nil))) (nomark _))))) (tS_one (tS_ret (e_cstB))) (tS_nil)) (tS_seq (tS_expr (e_append (pe_var (i := 15) rfl (by first | exact .inl rfl | exact .inr (.inl rfl) | exact .inr (.inr rfl))) (a_cons (e_cstN) (a_nil)))) (tS_seq (tS_if (PW.pt (w_or (t_cmp (op_neDd hu.u64) (e_callKD KW_edges (hr.mono (by decide)) gd rfl hp_of (k_cons (e_slot (i := 2) rfl (by first | exact .inl rfl | exact .inr (.inl rfl) | exact .inr (.inr rfl))) (k_nil)) rfl (cons_len nil_len)) (e_frz (i := 4) rfl (by first | exact .inl rfl | exact .inr (.inl rfl) | exact .inr (.inr rfl))) (nomark _)) (w_or (t_cmp (op_neDd hu.u64) (e_lc (own := [("edge", 20)]) rfl nd (i_seq (e_frz (i := 4) rfl (by first | exact .inl rfl | exact .inr (.inl rfl) | exact .inr (.inr rfl)))) (blkOk_by (N := N_law) (sc := defScope s_law) (own := [("edge", 20)]) (by decide +kernel)) (fun _ _ _ _ _ => g_name (i := 20) nd rfl (by first | exact .inl rfl | exact .inr rfl)) (fun _ _ _ _ _ => ts_yes) (fun _ _ _ _ _ => e_callKD KW_led_to (hr.mono (by decide)) gd rfl passB (k_cons (e_slot (i := 20) rfl (by first | exact .inl rfl | exact .inr (.inl rfl) | exact .inr (.inr rfl))) (k_cons (e_slot (i := 2) rfl (by first | exact .inl rfl | exact .inr (.inl rfl) | exact .inr (.inr rfl))) (k_nil))) rfl (cons_len (cons_len nil_len)))) (e_frz (i := 5) rfl (by first | exact .inl rfl | exact .inr (.inl rfl) | exact .inr (.inr rfl))) (nomark _)) (pw_or1 (t_cmp (op_neDd hu.u64) (e_blt (c_reprE B.sm hu.u110 gd) rfl B.b_repr rfl (a_cons (e_slot (i := 2) rfl (by first | exact .inl rfl | exact .inr (.inl rfl) | exact .inr (.inr rfl))) (a_nil))) (e_slot (i := 3) rfl (by first | exact .inl rfl | exact .inr (.inl rfl) | exact .inr (.inr rfl))) (nomark _)))))) (tS_one (tS_ret (e_cstB))) (tS_nil)) (tS_seq (tS_unp (e_ix2 hu.one (e_frz (i := 4) rfl (by first | exact .inl rfl | exact .inr (.inl rfl) | exact .inr (.inr rfl))) (e_callD D__law_random (hr.mono (by decide)) gd rfl hp_of (a_cons (e_slot (i := 1) rfl (by first | exact .inl rfl | exact .inr (.inl rfl) | exact .inr (.inr rfl))) (a_cons (e_blt c_len rfl B.b_len rfl (a_cons (e_frz (i := 4) rfl (by first | exact .inl rfl | exact .inr (.inl rfl) | exact .inr (.inr rfl))) (a_nil))) (a_nil)))) (fun _ _ => rfl)) (g_tup rfl (gs_cons (g_name (i := 6) nd rfl (by first | exact .inl rfl | exact .inr rfl)) (gs_cons (g_name (i := 9) nd rfl (by first | exact .inl rfl | exact .inr rfl)) (gs_cons (g_name (i := 12) nd rfl (by first | exact .inl rfl | exact .inr rfl)) (gs_nil)))))) (tS_seq (tS_asg (i := 16) (own := false) nd rfl (by first | exact .inl rfl | exact .inr rfl) (e_lst (a_cons (e_cstN) (a_cons (e_cstI) (a_cons (e_cstS) (a_cons (e_tup (a_nil)) (a_cons (e_tup (a_cons (e_slot (i := 6) rfl (by first | exact .inl rfl | exact .inr (.inl rfl) | exact .inr (.inr rfl))) (a_cons (e_slot (i := 9) rfl (by first | exact .inl rfl | exact .inr (.inl rfl) | exact .inr (.inr rfl))) (a_nil)))) (a_cons (e_lst (a_cons (e_slot (i := 6) rfl (by first | exact .inl rfl | exact .inr (.inl rfl) | exact .inr (.inr rfl))) (a_cons (e_slot (i := 9) rfl (by first | exact .inl rfl | exact .inr (.inl rfl) | exact .inr (.inr rfl))) (a_cons (e_slot (i := 12) rfl (by first | exact .inl rfl | exact .inr (.inl rfl) | exact .inr (.inr rfl))) (a_nil))))) (a_cons (e_tup (a_cons (e_slot (i := 6) rfl (by first | exact .inl rfl | exact .inr (.inl rfl) | exact .inr (.inr rfl))) (a_cons (e_slot (i := 9) rfl (by first | exact .inl rfl | exact .inr (.inl rfl) | exact .inr (.inr rfl))) (a_cons (e_slot (i := 12) rfl (by first | exact .inl rfl | exact .inr (.inl rfl) | exact .inr (.inr rfl))) (a_cons (e_cstI) (a_nil)))))) (a_nil)))))))))) (tS_seq (tS_asg (i := 16) (own := false) nd rfl (by first | exact .inl rfl | exact .inr rfl) (e_bin op_addD (e_slot (i := 16) rfl (by first | exact .inl rfl | exact .inr (.inl rfl) | exact .inr (.inr rfl))) (e_lst (a_cons (e_tup (a_cons (e_slot (i := 6) rfl (by first | exact .inl rfl | exact .inr (.inl rfl) | exact .inr (.inr rfl))) (a_cons (e_slot (i := 9) rfl (by first | exact .inl rfl | exact .inr (.inl rfl) | exact .inr (.inr rfl))) (a_cons (e_cstS) (a_nil))))) (a_cons (e_tup (a_cons (e_slot (i := 9) rfl (by first | exact .inl rfl | exact .inr (.inl rfl) | exact .inr (.inr rfl))) (a_cons (e_bin op_addD (e_slot (i := 6) rfl (by first | exact .inl rfl | exact .inr (.inl rfl) | exact .inr (.inr rfl))) (e_cstS)) (a_cons (e_slot (i := 12) rfl (by first | exact .inl rfl | exact .inr (.inl rfl) | exact .inr (.inr rfl))) (a_nil))))) (a_cons (e_tup (a_cons (e_slot (i := 6) rfl (by first | exact .inl rfl | exact .inr (.inl rfl) | exact .inr (.inr rfl))) (a_cons (e_bin op_addD (e_slot (i := 9) rfl (by first | exact .inl rfl | exact .inr (.inl rfl) | exact .inr (.inr rfl))) (e_cstS)) (a_cons (e_slot (i := 12) rfl (by first | exact .inl rfl | exact .inr (.inl rfl) | exact .inr (.inr rfl))) (a_nil))))) (a_cons (e_tup (a_cons (e_lst (a_cons (e_slot (i := 6) rfl (by first | exact .inl rfl | exact .inr (.inl rfl) | exact .inr (.inr rfl))) (a_nil))) (a_cons (e_slot (i := 9) rfl (by first | exact .inl rfl | exact .inr (.inl rfl) | exact .inr (.inr rfl))) (a_cons (e_slot (i := 12) rfl (by first | exact .inl rfl | exact .inr (.inl rfl) | exact .inr (.inr rfl))) (a_nil))))) (a_cons (e_tup (a_cons (e_slot (i := 6) rfl (by first | exact .inl rfl | exact .inr (.inl rfl) | exact .inr (.inr rfl))) (a_cons (e_slot (i := 9) rfl (by first | exact .inl rfl | exact .inr (.inl rfl) | exact .inr (.inr rfl))) (a_cons (e_cstN) (a_nil))))) (a_cons (e_dict0) (a_nil)))))))))) (tS_seq (tS_asgLc (i := 17) (o := false) (own := [("other", 18)]) rfl nd rfl rfl (sw_true rfl rfl rfl (by decide +kernel)) (i_seq (e_lst (a_cons (e_cstS) (a_cons (e_cstS) (a_cons (e_cstS) (a_cons (e_cstS) (a_cons (e_cstS) (a_cons (e_cstS) (a_cons (e_cstS) (a_cons (e_cstS) (a_nil))))))))))) (blkOk_by (N := N_law) (sc := defScope s_law) (own := [("other", 18)]) (by decide +kernel)) (fun _ _ _ _ _ => g_name (i := 18) nd rfl (by first | exact .inl rfl | exact .inr rfl)) (fun _ _ _ _ _ => ts_one (t_cmp (op_notinDX hu.u65) (e_tup (a_cons (e_slot (i := 6) rfl (by first | exact .inl rfl | exact .inr (.inl rfl) | exact .inr (.inr rfl))) (a_cons (e_slot (i := 9) rfl (by first | exact .inl rfl | exact .inr (.inl rfl) | exact .inr (.inr rfl))) (a_cons (e_slot (i := 18) rfl (by first | exact .inl rfl | exact .inr (.inl rfl) | exact .inr (.inr rfl))) (a_nil))))) (e_frz (i := 4) rfl (by first | exact .inl rfl | exact .inr (.inl rfl) | exact .inr (.inr rfl))) (by with_unfolding_all rfl))) (fun _ _ _ _ _ => e_slot (i := 18) rfl (by first | exact .inl rfl | exact .inr (.inl rfl) | exact .inr (.inr rfl)))) (tS_one (tS_ret (e_cmp (op_eqDd hu.u64) (e_lc (own := [("bad", 19)]) rfl nd (i_seq (e_bin op_addD (e_slot (i := 16) rfl (by first | exact .inl rfl | exact .inr (.inl rfl) | exact .inr (.inr rfl))) (e_lc (own := [("other", 18)]) rfl nd (i_seq (e_slot (i := 17) rfl (by first | exact .inl rfl | exact .inr (.inl rfl) | exact .inr (.inr rfl)))) (blkOk_by (N := N_law) (sc := defScope s_law) (own := [("other", 18)]) (by decide +kernel)) (fun _ _ _ _ _ => g_name (i := 18) nd rfl (by first | exact .inl rfl | exact .inr rfl)) (fun _ _ _ _ _ => ts_yes) (fun _ _ _ _ _ => e_tup (a_cons (e_slot (i := 6) rfl (by first | exact .inl rfl | exact .inr (.inl rfl) | exact .inr (.inr rfl))) (a_cons (e_slot (i := 9) rfl (by first | exact .inl rfl | exact .inr (.inl rfl) | exact .inr (.inr rfl))) (a_cons (e_slot (i := 18) rfl (by first | exact .inl rfl | exact .inr (.inl rfl) | exact .inr (.inr rfl))) (a_nil)))))))) (blkOk_by (N := N_law) (sc := defScope s_law) (own := [("bad", 19)]) (by decide +kernel)) (fun _ _ _ _ _ => g_name (i := 19) nd rfl (by first | exact .inl rfl | exact .inr rfl)) (fun _ _ _ _ _ => ts_one (t_not (t_tru (e_callD D__law_refused (hr.mono (by decide)) gd rfl passB (a_cons (e_slot (i := 2) rfl (by first | exact .inl rfl | exact .inr (.inl rfl) | exact .inr (.inr rfl))) (a_cons (e_slot (i := 19) rfl (by first | exact .inl rfl | exact .inr (.inl rfl) | exact .inr (.inr rfl))) (a_nil)))) (fun _ => rfl)))) (fun _ _ _ _ _ => e_slot (i := 19) rfl (by first | exact .inl rfl | exact .inr (.inl rfl) | exact .inr (.inr rfl)))) (e_lst (a_nil)) (nomark _)))))))))))))))
theorem ok_law (B : Amb P w K mg base fa ca) (F : FunD K "law" "law" (defArgs s_law) (defBody s_law) (defScope s_law) [] [] (fa "law") fd) (me : mg "law" = some (.ref (fa "law"))) (D__law_refused : DefOk P w K mg base fa ca 13 "_law_refused" 2 f__law_refused) (D__law_random : DefOk P w K mg base fa ca 2 "_law_random" 2 f__law_random) (D_led_to : DefOk P w K mg base fa ca 12 "led_to" 2 f_led_to) (D_edges : DefOk P w K mg base fa ca 12 "edges" 1 f_edges) (D__law_ways : DefOk P w K mg base fa ca 1 "_law_ways" 1 f__law_ways) (D__law_target : DefOk P w K mg base fa ca 1 "_law_target" 2 f__law_target) (D__law_drawn_program : DefOk P w K mg base fa ca 8 "_law_drawn_program" 4 f__law_drawn_program) (D__law_generator : DefOk P w K mg base fa ca 2 "_law_generator" 2 f__law_generator) (KW_led_to : KwOk P w K mg base fa ca 12 "led_to" ["edge", "program"] [1, 0] f_led_to) (KW_edges : KwOk P w K mg base fa ca 12 "edges" ["program"] [0] f_edges) :
    DefOk P w K mg base fa ca 14 "law" 1 f_law :=
  ⟨⟨fd, ["script"], okG_law B F me D__law_refused D__law_random D_led_to D_edges D__law_ways D__law_target D__law_drawn_program D__law_generator KW_led_to KW_edges, F.kp, F.bindsN (fun _ _ _ _ _ _ us hl => match us, hl with | [_], _ => rfl), me, rfl⟩⟩
end
end Pi.K03


set_option linter.all false
set_option maxRecDepth 100000
set_option maxHeartbeats 400000
set_option autoImplicit false
namespace Pi.K03
open PySem
theorem small64 {i : Int} (h : 0 ≤ i) (h2 : i < 2 ^ 60) : (-18446744073709551616 < i ∧ i < 18446744073709551616) = True := eq_true (by omega)
theorem hash_ok (s i : Int) (hi : 0 ≤ i) (hi2 : i < 2 ^ 60) : ∃ k : Int, f__law_hash [.d (.int s), .d (.int i)] = .ret (.d (.int k)) [] := by
  unfold f__law_hash m__law_hash
  have c := small64 hi hi2
  have d : ∀ n : Int, (-18446744073709551616 < n % 2147483629 ∧ n % 2147483629 < 18446744073709551616) = True := fun n => eq_true (by omega)
  simp_arith [c, d]
  exact ⟨_, rfl⟩
/-- a generator that has drawn at most n numbers -/
def Gen (n : Int) (g : List PyData) : Prop := ∃ a b c : Int, g = [.int a, .int b, .int c] ∧ 0 ≤ a ∧ 0 ≤ c ∧ c ≤ n
theorem bits_small {b : Int} (h0 : 0 < b) (h : b < 2 ^ 50) : (Builtin.Int.intBits b : Int) / 30 = 0 ∨ (Builtin.Int.intBits b : Int) / 30 = 1 := by
  have : Builtin.Int.intBits b ≤ 59 := by
    unfold Builtin.Int.intBits
    split
    · omega
    · have h1 : b.natAbs.log2 < 50 := (Nat.log2_lt (by omega)).mpr (by omega)
      omega
  omega
theorem rnd {n : Int} {g : List PyData} (G : Gen n g) (hn : n < 2 ^ 50) {b : Int} (hb : 0 < b) (hb2 : b < 2 ^ 50) : ∃ k g', f__law_random [.bor g, .d (.int b)] = .ret (.d (.int k)) [g'] ∧ Gen (n + 3) g' ∧ 0 ≤ k ∧ k < b := by
  obtain ⟨x, y, z, rfl, hx, hz, hzn⟩ := G
  unfold f__law_random m__law_random
  have bl : b.natAbs.log2 < 9000 := Nat.lt_trans ((Nat.log2_lt (by omega)).mpr (show b.natAbs < 2 ^ 50 by omega)) (by decide)
  by_cases h : 0 < x
  · simp_arith [h, hb, bl]
    exact ⟨_, _, rfl, ⟨_, _, _, rfl, Int.ediv_nonneg hx (by omega), hz, by omega⟩, Int.emod_nonneg _ (by omega), Int.emod_lt_of_pos _ hb⟩
  · have e30 : ∀ k : Int, fdivD (.int k) (.int 30) = some (.d (.int (k / 30))) := fun k => by
      rw [z_divI, if_pos ⟨by decide, by decide⟩]
    have eb : bitsD (.int b) = some (.d (.int (Builtin.Int.intBits b : Nat))) := rfl
    rcases bits_small hb hb2 with q | q
    · obtain ⟨k1, e1⟩ := hash_ok y (z + 1) (by omega) (by omega)
      have i1 : intsD 0 (1 : Int).toNat = [.int 0] := rfl
      simp_arith [h, hb, eb, e30, q, i1, e1]
      exact ⟨_, _, rfl, ⟨_, _, _, rfl, hx, by omega, by omega⟩, Int.emod_nonneg _ (by omega), Int.emod_lt_of_pos _ hb⟩
    · obtain ⟨k1, e1⟩ := hash_ok y (z + 1) (by omega) (by omega)
      obtain ⟨k2, e2⟩ := hash_ok y (z + 1 + 1) (by omega) (by omega)
      have i1 : intsD 0 (2 : Int).toNat = [.int 0, .int 1] := rfl
      simp_arith [h, hb, eb, e30, q, i1, e1, e2]
      exact ⟨_, _, rfl, ⟨_, _, _, rfl, hx, by omega, by omega⟩, Int.emod_nonneg _ (by omega), Int.emod_lt_of_pos _ hb⟩
theorem pick {n : Int} {g : List PyData} (G : Gen n g) (hn : n < 2 ^ 50) {xs : List PyData} (hx : xs ≠ []) (hl : xs.length < 1000000) : ∃ v g', f__law_pick [.bor g, .d (.list xs)] = .ret (.d v) [g'] ∧ Gen (n + 3) g' ∧ v ∈ xs := by
  have pos : 0 < xs.length := List.length_pos_iff.mpr hx
  obtain ⟨k, g', e, G', k0, k1⟩ := rnd G hn (b := xs.length) (by omega) (by omega)
  obtain ⟨v, hv⟩ : ∃ v, xs[k.toNat]? = some v := ⟨_, List.getElem?_eq_getElem (show k.toNat < xs.length by omega)⟩
  unfold f__law_pick m__law_pick
  simp_arith [e, at_ok k0 hv]
  exact ⟨_, _, rfl, G', List.mem_of_getElem? hv⟩
def smalls : List PyData := [.str "a", .str "x1", .str "key"]
def anys : List PyData := [.str "a", .str "n", .str "x1", .str "total", .str "key"]
theorem small {n : Int} {g : List PyData} (G : Gen n g) (hn : n < 2 ^ 50) : ∃ v g', f__law_small [.bor g] = .ret (.d v) [g'] ∧ Gen (n + 3) g' ∧ v ∈ smalls := by
  obtain ⟨v, g', e, G', m⟩ := pick G hn (xs := smalls) (by decide) (by decide)
  unfold smalls at e
  unfold f__law_small m__law_small
  simp_arith [e]
  exact ⟨_, _, rfl, G', m⟩
theorem any1 {n : Int} {g : List PyData} (G : Gen n g) (hn : n < 2 ^ 50) : ∃ v g', f__law_any [.bor g] = .ret (.d v) [g'] ∧ Gen (n + 3) g' ∧ v ∈ anys := by
  obtain ⟨v, g', e, G', m⟩ := pick G hn (xs := anys) (by decide) (by decide)
  unfold anys at e
  unfold f__law_any m__law_any
  simp_arith [e]
  exact ⟨_, _, rfl, G', m⟩
theorem Gen.up {n k : Int} {g : List PyData} (G : Gen n g) (h : n ≤ k) : Gen k g := by
  obtain ⟨a, b, c, e, h1, h2, h3⟩ := G
  exact ⟨a, b, c, e, h1, h2, by omega⟩
theorem number {n : Int} {g : List PyData} (G : Gen n g) (hn : n < 2 ^ 49) : ∃ (k : Int) (g' : List PyData), f__law_number [.bor g] = .ret (.d (.int k)) [g'] ∧ Gen (n + 6) g' ∧ -10000000000000 < k ∧ k < 10000000000000 := by
  obtain ⟨w, g1, e1, G1, w0, w1⟩ := rnd G (by omega) (b := 8) (by decide) (by decide)
  have p1 : powD (.int 10) (.int 12) = some (.d (.int 1000000000000)) := by
    show (if (0 : Int) ≤ 12 ∧ (Builtin.Int.intBits 10 : Int) * 12 ≤ 2 ^ 27 then some (Val.d (.int ((10 : Int) ^ (12 : Int).toNat))) else none) = _
    rw [if_pos (by decide +kernel)]
    rfl
  unfold f__law_number m__law_number
  by_cases h5 : w < 5
  · have hw : w = 0 ∨ w = 1 ∨ w = 2 ∨ w = 3 ∨ w = 4 := by omega
    rcases hw with rfl | rfl | rfl | rfl | rfl <;>
    · simp_arith [e1]
      exact ⟨_, _, rfl, G1.up (by omega), by decide, by decide⟩
  · by_cases h7 : w < 7
    · obtain ⟨k, g2, e2, G2, k0, k1⟩ := rnd G1 (by omega) (b := 9) (by decide) (by decide)
      simp_arith [e1, h5, h7, e2]
      exact ⟨_, _, rfl, G2.up (by omega), by omega, by omega⟩
    · obtain ⟨k, g2, e2, G2, k0, k1⟩ := rnd G1 (by omega) (b := 2000000000001) (by decide) (by decide)
      simp_arith [e1, h5, h7, e2, p1]
      exact ⟨_, _, rfl, G2.up (by omega), by omega, by omega⟩
/-- texts that data may hold -/
def IsT (x : PyData) : Prop := ∃ s : Str, x = .str s ∧ PyData.strOk s = true
theorem shaped_texts {xs : List PyData} (h : ∀ x ∈ xs, IsT x) : SeqAt.shaped (.list xs) = true := by
  have a : PyData.canLayAll0 xs = true ∧ PyData.depthAll xs = 0 := by
    induction xs with
    | nil => exact ⟨rfl, rfl⟩
    | cons x xs ih =>
      obtain ⟨h1, h2⟩ := ih fun y hy => h y (List.mem_cons_of_mem _ hy)
      obtain ⟨s, rfl, hs⟩ := h x List.mem_cons_self
      refine ⟨?_, ?_⟩
      · show (PyData.canLay0 (.str s) && PyData.canLayAll0 xs) = true
        rw [h1, Bool.and_true]
        exact hs
      · show max (PyData.depth (.str s)) (PyData.depthAll xs) = 0
        rw [h2]; rfl
  show (PyData.canLayAll0 xs && decide (PyData.depthAll xs + 1 ≤ 64)) = true
  rw [a.1, a.2]; rfl
theorem ne_nil_texts {xs : List PyData} (h : ∀ x ∈ xs, IsT x) : neD (.list xs) (.list []) = some (.d (.bool (!xs.isEmpty))) := by
  unfold neD
  rw [if_pos ⟨shaped_texts h, rfl⟩]
  cases xs <;> rfl
def k_while (t : PEnv → R Bool) (mb : PEnv → R Flow) (n : Nat) : Bool → PEnv → R Flow := fun c env => if c then whileN t mb n (mb env) else .ok .nx env
where whileN (t : PEnv → R Bool) (mb : PEnv → R Flow) (n : Nat) : R Flow → R Flow
  | .ok .nx e => whileGo t mb n e
  | .ok .cont e => whileGo t mb n e
  | .ok .brk e => .ok .nx e
  | r => r
theorem z_while {t : PEnv → R Bool} {mb : PEnv → R Flow} {n : Nat} {env : PEnv} : whileGo t mb (n + 1) env = (t env).bind (k_while t mb n) := rfl
theorem z_while_t {t : PEnv → R Bool} {mb : PEnv → R Flow} {n : Nat} {env : PEnv} : k_while t mb n true env = k_while.whileN t mb n (mb env) := rfl
theorem z_while_f {t : PEnv → R Bool} {mb : PEnv → R Flow} {n : Nat} {env : PEnv} : k_while t mb n false env = .ok .nx env := rfl
theorem z_while_n {t : PEnv → R Bool} {mb : PEnv → R Flow} {n : Nat} {env : PEnv} : k_while.whileN t mb n (.ok .nx env) = whileGo t mb n env := rfl
theorem popD {left : List PyData} {k : Int} {v : PyData} {env : PEnv} {i : Nat} (k0 : 0 ≤ k) (k2 : k < 2 ^ 62) (hv : left[k.toNat]? = some v) (hs : env[i]? = some (some (.lst left))) : popAtD i env (.int k) = .ok (.d v) (env.set i (some (.lst (left.eraseIdx k.toNat)))) := by
  have hl : k.toNat < left.length := (List.getElem?_eq_some_iff.mp hv).1
  have sq : seqIndex? k left.length = some k.toNat := (L2.ixN_seq (n := left.length) (i := k) (j := k.toNat) (by unfold L2.ixN; rw [if_pos k0, if_pos (by omega)])).1
  show chgV i _ env = _
  rw [z_chg, hs, z_chgO_l]
  rw [if_pos ⟨by omega, by omega⟩, sq]
  dsimp only
  rw [hv]
  dsimp only
  rw [z_chgR, z_setMu, hs, z_muO_l]
theorem erase_perm : ∀ (l : List PyData) (k : Nat) (h : k < l.length), (l[k] :: l.eraseIdx k).Perm l
  | [], k, h => absurd h (Nat.not_lt_zero _)
  | x :: l, 0, _ => List.Perm.refl _
  | x :: l, k + 1, h => (List.Perm.swap x _ _).trans (List.Perm.cons x (erase_perm l k (Nat.lt_of_succ_lt_succ h)))
theorem order_loop (things : List PyData) : ∀ (fuel : Nat) (left found : List PyData) (n : Int) (g : List PyData), left.length < fuel → (∀ x ∈ left, IsT x) → left.length + found.length < 1000 → Gen n g → n + 3 * left.length < 2 ^ 50 →
    ∃ p g', whileGo (boolT (binE neD (slotE 2) (lstE nilA))) (exprS (appE 3 (consA (popAtE 2 (consA (callE f__law_random (consA (slotE 0) (consA (bltE lenD (consA (slotE 2) nilA)) nilA))) nilA)) nilA))) fuel [some (.bor g), some (.val (.list things)), some (.lst left), some (.lst found)]
      = .ok .nx [some (.bor g'), some (.val (.list things)), some (.lst []), some (.lst (found ++ p))] ∧ p.Perm left ∧ Gen (n + 3 * left.length) g'
  | 0, left, _, _, _, h, _, _, _, _ => absurd h (Nat.not_lt_zero _)
  | fuel + 1, [], found, n, g, h, ht, hl, G, hn => by
    refine ⟨[], g, ?_, List.Perm.nil, by simpa using G⟩
    have e := ne_nil_texts (xs := []) (fun _ h => nomatch h)
    rw [z_while]
    simp_arith [e, z_while_f, List.isEmpty_nil, List.append_nil]
  | fuel + 1, x :: xs, found, n, g, h, ht, hl, G, hn => by
    have e := ne_nil_texts ht
    obtain ⟨k, g1, e1, G1, k0, k1⟩ := rnd G (by omega) (b := ((x :: xs).length : Nat)) (by simp) (by simp at hl ⊢; omega)
    obtain ⟨v, hv⟩ : ∃ v, (x :: xs)[k.toNat]? = some v := ⟨_, List.getElem?_eq_getElem (show k.toNat < (x :: xs).length by omega)⟩
    have hlen : ((x :: xs).eraseIdx k.toNat).length = xs.length := by rw [List.length_eraseIdx, if_pos (by omega)]; simp
    obtain ⟨p, g2, e2, hp, G2⟩ := order_loop things fuel ((x :: xs).eraseIdx k.toNat) (found ++ [v]) (n + 3) g1 (by rw [hlen]; simp at h; omega) (fun y hy => ht y (List.mem_of_mem_eraseIdx hy)) (by rw [hlen]; simp at hl ⊢; omega) G1 (by rw [hlen]; simp at hn; omega)
    refine ⟨v :: p, g2, ?_, ?_, by rw [hlen] at G2; exact G2.up (by simp; omega)⟩
    · rw [z_while]
      have pd := popD (left := x :: xs) (env := [some (.bor g1), some (.val (.list things)), some (.lst (x :: xs)), some (.lst found)]) (i := 2) k0 (by simp at hl k1; omega) hv rfl
      have fl : found.length < big := by simp at hl; show _ < 1000000; omega
      have e1' : f__law_random [.bor g, .d (.int ((xs.length + 1 : Nat) : Int))] = .ret (.d (.int k)) [g1] := e1
      simp_arith [e, z_while_t, z_while_n, List.isEmpty_cons, e1', pd, fl]
      rw [e2, List.append_assoc]
      rfl
    · refine (List.Perm.cons v hp).trans ?_
      have hl2 : k.toNat < (x :: xs).length := by omega
      have ev2 : v = (x :: xs)[k.toNat] := by rw [List.getElem?_eq_getElem hl2] at hv; exact (Option.some.inj hv).symm
      subst ev2
      exact erase_perm _ _ hl2
theorem order {n : Int} {g : List PyData} (G : Gen n g) {xs : List PyData} (ht : ∀ x ∈ xs, IsT x) (hl : xs.length < 90) (hn : n < 2 ^ 49) : ∃ p g', f__law_drawn_order [.bor g, .d (.list xs)] = .ret (.new p) [g'] ∧ p.Perm xs ∧ Gen (n + 3 * xs.length) g' := by
  obtain ⟨p, g', e, hp, G'⟩ := order_loop xs wh__law_drawn_order xs [] n g (by show _ < 100; omega) ht (by simp; omega) G (by omega)
  refine ⟨p, g', ?_, hp, G'⟩
  unfold f__law_drawn_order m__law_drawn_order
  have z : ∀ i o j u ma mb env, par2S i o ma j u mb env = (ma env).bindO o (fun ra env => (mb env).bindO u fun rb env => (asgV i o ra env).thenS fun env => (asgV j u rb env).thenS skipS) := fun _ _ _ _ _ _ _ => rfl
  have zt : ∀ (m : R Val) (f : Val → PEnv → R Flow), m.bindO true f = m.bind f := fun _ _ => rfl
  simp_arith [z, zt]
  rw [e]
  simp_arith [List.nil_append]
end Pi.K03


set_option linter.all false
set_option maxRecDepth 100000
set_option maxHeartbeats 400000
set_option autoImplicit false
namespace Pi.K03
open PySem
def texts : List PyData := [.str "a", .str "n", .str "x1", .str "total", .str "key", .str "main", .str "f", .str "g2", .str "helper", .str "b0", .str "loop", .str "z", .str "out", .str "in7", .str "body", .str "w2"]
theorem word_ok : ∀ x ∈ texts, f_is_word [.d x] = .ret (.d (.bool true)) [] := by
  intro x h
  simp only [texts, List.mem_cons, List.not_mem_nil, or_false] at h
  rcases h with rfl | rfl | rfl | rfl | rfl | rfl | rfl | rfl | rfl | rfl | rfl | rfl | rfl | rfl | rfl | rfl <;> kernel_rfl
theorem part_word : ∀ x ∈ texts, f_is_part [.d x, .d (.str "word")] = .ret (.d (.bool true)) [] := by
  intro x h
  simp only [texts, List.mem_cons, List.not_mem_nil, or_false] at h
  rcases h with rfl | rfl | rfl | rfl | rfl | rfl | rfl | rfl | rfl | rfl | rfl | rfl | rfl | rfl | rfl | rfl <;> kernel_rfl
theorem part_num (k : Int) : f_is_part [.d (.int k), .d (.str "number")] = .ret (.d (.bool true)) [] := by kernel_rfl
theorem tb_part : tbOf [("is_part", f_is_part)] "is_part" = some f_is_part := by kernel_rfl
section
variable {h a b c d x y k1 k2 k3 k4 k5 k6 e5 e6 : PyData}
theorem ne_self (n : Int) : (!(n == n)) = false := by simp
theorem allT1 : allD [PyData.list [.bool true]] = some (Val.d (.bool true)) := rfl
theorem parts1 (e1 : f_is_part [.d a, .d k1] = .ret (.d (.bool true)) []) : f_has_parts [.d (.tuple [h, a]), .d (.tuple [k1]), .fn "is_part"] = .ret (.d (.bool true)) [] := by
  unfold f_has_parts m_has_parts
  simp_arith! [z_neI, tb_part, allT1, e1]
theorem allT2 : allD [PyData.list [.bool true, .bool true]] = some (Val.d (.bool true)) := rfl
theorem parts2 (e1 : f_is_part [.d a, .d k1] = .ret (.d (.bool true)) []) (e2 : f_is_part [.d b, .d k2] = .ret (.d (.bool true)) []) : f_has_parts [.d (.tuple [h, a, b]), .d (.tuple [k1, k2]), .fn "is_part"] = .ret (.d (.bool true)) [] := by
  unfold f_has_parts m_has_parts
  simp_arith! [z_neI, tb_part, allT2, e1, e2]
theorem allT3 : allD [PyData.list [.bool true, .bool true, .bool true]] = some (Val.d (.bool true)) := rfl
theorem parts3 (e1 : f_is_part [.d a, .d k1] = .ret (.d (.bool true)) []) (e2 : f_is_part [.d b, .d k2] = .ret (.d (.bool true)) []) (e3 : f_is_part [.d c, .d k3] = .ret (.d (.bool true)) []) : f_has_parts [.d (.tuple [h, a, b, c]), .d (.tuple [k1, k2, k3]), .fn "is_part"] = .ret (.d (.bool true)) [] := by
  unfold f_has_parts m_has_parts
  simp_arith! [z_neI, tb_part, allT3, e1, e2, e3]
theorem allT4 : allD [PyData.list [.bool true, .bool true, .bool true, .bool true]] = some (Val.d (.bool true)) := rfl
theorem parts4 (e1 : f_is_part [.d a, .d k1] = .ret (.d (.bool true)) []) (e2 : f_is_part [.d b, .d k2] = .ret (.d (.bool true)) []) (e3 : f_is_part [.d c, .d k3] = .ret (.d (.bool true)) []) (e4 : f_is_part [.d d, .d k4] = .ret (.d (.bool true)) []) : f_has_parts [.d (.tuple [h, a, b, c, d]), .d (.tuple [k1, k2, k3, k4]), .fn "is_part"] = .ret (.d (.bool true)) [] := by
  unfold f_has_parts m_has_parts
  simp_arith! [z_neI, tb_part, allT4, e1, e2, e3, e4]
theorem allT6 : allD [PyData.list [.bool true, .bool true, .bool true, .bool true, .bool true, .bool true]] = some (Val.d (.bool true)) := rfl
theorem parts6 (e1 : f_is_part [.d a, .d k1] = .ret (.d (.bool true)) []) (e2 : f_is_part [.d b, .d k2] = .ret (.d (.bool true)) []) (e3 : f_is_part [.d c, .d k3] = .ret (.d (.bool true)) []) (e4 : f_is_part [.d d, .d k4] = .ret (.d (.bool true)) []) (e5 : f_is_part [.d x, .d k5] = .ret (.d (.bool true)) []) (e6 : f_is_part [.d y, .d k6] = .ret (.d (.bool true)) []) : f_has_parts [.d (.tuple [h, a, b, c, d, x, y]), .d (.tuple [k1, k2, k3, k4, k5, k6]), .fn "is_part"] = .ret (.d (.bool true)) [] := by
  unfold f_has_parts m_has_parts
  simp_arith! [z_neI, tb_part, allT6, e1, e2, e3, e4, e5, e6]
end
theorem part_sign : ∀ x ∈ [PyData.str "over", .str "rest", .str "less", .str "same", .str "plus", .str "minus", .str "times"], f_is_part [.d x, .d (.str "sign")] = .ret (.d (.bool true)) [] := by
  intro x h
  simp only [List.mem_cons, List.not_mem_nil, or_false] at h
  rcases h with rfl | rfl | rfl | rfl | rfl | rfl | rfl <;> kernel_rfl
theorem part_count : ∀ x ∈ [PyData.int 0, .int 1, .int 5, .int 999], f_is_part [.d x, .d (.str "counter")] = .ret (.d (.bool true)) [] := by
  intro x h
  simp only [List.mem_cons, List.not_mem_nil, or_false] at h
  rcases h with rfl | rfl | rfl | rfl <;> kernel_rfl
/-- what a drawn step is -/
inductive Step : PyData → Prop
  | set {a : PyData} {k : Int} : a ∈ texts → -10000000000000 < k → k < 10000000000000 → Step (.tuple [.str "set", a, .int k])
  | copy {a b : PyData} : a ∈ texts → b ∈ texts → Step (.tuple [.str "copy", a, b])
  | deed {a s b c : PyData} : a ∈ texts → s ∈ [PyData.str "over", .str "rest", .str "less", .str "same", .str "plus", .str "minus", .str "times"] → b ∈ texts → c ∈ texts → Step (.tuple [.str "deed", a, s, b, c])
  | read {a : PyData} : a ∈ texts → Step (.tuple [.str "read", a])
  | prnt {a : PyData} : a ∈ texts → Step (.tuple [.str "print", a])
  | count {a : PyData} : a ∈ [PyData.int 0, .int 1, .int 5, .int 999] → Step (.tuple [.str "count", a])
theorem step_ok {s : PyData} (h : Step s) : f_is_step [.d s] = .ret (.d (.bool true)) [] := by
  unfold f_is_step m_is_step
  cases h with
  | set ha _ _ =>
    have f : ∀ a b, f_first_word [.d (.tuple [.str "set", a, b])] = .ret (.d (.str "set")) [] := fun a b => by kernel_rfl
    have t : tabGet t_STEPS (.str "set") = some (.d (.tuple [.str "word", .str "number"])) := by kernel_rfl
    simp_arith! [f, t, parts2 (part_word _ ha) (part_num _)]
  | copy ha hb =>
    have f : ∀ a b, f_first_word [.d (.tuple [.str "copy", a, b])] = .ret (.d (.str "copy")) [] := fun a b => by kernel_rfl
    have t : tabGet t_STEPS (.str "copy") = some (.d (.tuple [.str "word", .str "word"])) := by kernel_rfl
    simp_arith! [f, t, parts2 (part_word _ ha) (part_word _ hb)]
  | deed ha hs hb hc =>
    have f : ∀ a s b c, f_first_word [.d (.tuple [.str "deed", a, s, b, c])] = .ret (.d (.str "deed")) [] := fun a s b c => by kernel_rfl
    have t : tabGet t_STEPS (.str "deed") = some (.d (.tuple [.str "word", .str "sign", .str "word", .str "word"])) := by kernel_rfl
    simp_arith! [f, t, parts4 (part_word _ ha) (part_sign _ hs) (part_word _ hb) (part_word _ hc)]
  | read ha =>
    have f : ∀ a, f_first_word [.d (.tuple [.str "read", a])] = .ret (.d (.str "read")) [] := fun a => by kernel_rfl
    have t : tabGet t_STEPS (.str "read") = some (.d (.tuple [.str "word"])) := by kernel_rfl
    simp_arith! [f, t, parts1 (part_word _ ha)]
  | prnt ha =>
    have f : ∀ a, f_first_word [.d (.tuple [.str "print", a])] = .ret (.d (.str "print")) [] := fun a => by kernel_rfl
    have t : tabGet t_STEPS (.str "print") = some (.d (.tuple [.str "word"])) := by kernel_rfl
    simp_arith! [f, t, parts1 (part_word _ ha)]
  | count ha =>
    have f : ∀ a, f_first_word [.d (.tuple [.str "count", a])] = .ret (.d (.str "count")) [] := fun a => by kernel_rfl
    have t : tabGet t_STEPS (.str "count") = some (.d (.tuple [.str "counter"])) := by kernel_rfl
    simp_arith! [f, t, parts1 (part_count _ ha)]
theorem smalls_texts : ∀ x ∈ smalls, x ∈ texts := by
  intro x h
  simp only [smalls, List.mem_cons, List.not_mem_nil, or_false] at h
  rcases h with rfl | rfl | rfl <;> simp [texts]
theorem anys_texts : ∀ x ∈ anys, x ∈ texts := by
  intro x h
  simp only [anys, List.mem_cons, List.not_mem_nil, or_false] at h
  rcases h with rfl | rfl | rfl | rfl | rfl <;> simp [texts]
theorem pick1 {n : Int} {g : List PyData} (G : Gen n g) (hn : n < 2 ^ 50) {x y : PyData} : ∃ v g', f__law_pick [.bor g, .d (.list [x, y])] = .ret (.d v) [g'] ∧ Gen (n + 3) g' ∧ (v = x ∨ v = y) := by
  obtain ⟨v, g', e, G', m⟩ := pick G hn (xs := [x, y]) (List.cons_ne_nil _ _) (by simp)
  exact ⟨v, g', e, G', by simpa using m⟩
theorem step_drawn {n : Int} {g : List PyData} (G : Gen n g) (hn : n < 2 ^ 48) : ∃ v g', f__law_drawn_step [.bor g] = .ret (.d v) [g'] ∧ Gen (n + 20) g' ∧ Step v := by
  obtain ⟨w, g1, e1, G1, w0, w1⟩ := rnd G (by omega) (b := 13) (by decide) (by decide)
  unfold f__law_drawn_step m__law_drawn_step
  have qi : ∀ n k : Int, eqD (.int n) (.int k) = some (.d (.bool (n == k))) := fun _ _ => rfl
  have hw : w < 2 ∨ w = 12 ∨ w = 2 ∨ w = 3 ∨ (4 ≤ w ∧ w < 6) ∨ (6 ≤ w ∧ w < 8) ∨ w = 8 ∨ w = 9 ∨ w = 10 ∨ w = 11 := by omega
  have nb : ∀ k : Int, w ≠ k → (w == k) = false := fun k h => beq_false_of_ne h
  rcases hw with h | rfl | rfl | rfl | ⟨h, h'⟩ | ⟨h, h'⟩ | rfl | rfl | rfl | rfl
  · obtain ⟨a, g2, e2, G2, ma⟩ := any1 G1 (by omega)
    obtain ⟨k, g3, e3, G3, k0, k1⟩ := number G2 (by omega)
    simp_arith! [e1, e2, e3, h]
    exact ⟨_, _, rfl, G3.up (by omega), .set (anys_texts _ ma) k0 k1⟩
  · obtain ⟨k, g2, e2, G2, k0, k1⟩ := rnd G1 (by omega) (b := 4) (by decide) (by decide)
    have hk : k = 0 ∨ k = 1 ∨ k = 2 ∨ k = 3 := by omega
    rcases hk with rfl | rfl | rfl | rfl <;>
    · simp_arith! [e1, e2, qi, Int.reduceBEq]
      exact ⟨_, _, rfl, G2.up (by omega), .count (by simp)⟩
  · obtain ⟨a, g2, e2, G2, ma⟩ := small G1 (by omega)
    obtain ⟨b, g3, e3, G3, mb⟩ := small G2 (by omega)
    simp_arith! [e1, e2, e3, qi, Int.reduceBEq]
    exact ⟨_, _, rfl, G3.up (by omega), .copy (smalls_texts _ ma) (smalls_texts _ mb)⟩
  · obtain ⟨a, g2, e2, G2, ma⟩ := pick1 G1 (by omega) (x := .str "n") (y := .str "total")
    obtain ⟨b, g3, e3, G3, mb⟩ := any1 G2 (by omega)
    simp_arith! [e1, e2, e3, qi, Int.reduceBEq]
    exact ⟨_, _, rfl, G3.up (by omega), .copy (by rcases ma with rfl | rfl <;> simp [texts]) (anys_texts _ mb)⟩
  · obtain ⟨a, g2, e2, G2, ma⟩ := any1 G1 (by omega)
    simp_arith! [e1, e2, qi, nb 12 (by omega), nb 2 (by omega), nb 3 (by omega), h', show ¬ w < 2 by omega]
    exact ⟨_, _, rfl, G2.up (by omega), .read (anys_texts _ ma)⟩
  · obtain ⟨a, g2, e2, G2, ma⟩ := any1 G1 (by omega)
    simp_arith! [e1, e2, qi, nb 12 (by omega), nb 2 (by omega), nb 3 (by omega), h', show ¬ w < 2 by omega, show ¬ w < 6 by omega]
    exact ⟨_, _, rfl, G2.up (by omega), .prnt (anys_texts _ ma)⟩
  · obtain ⟨a, g2, e2, G2, ma⟩ := small G1 (by omega)
    obtain ⟨s, g3, e3, G3, ms⟩ := pick1 G2 (by omega) (x := .str "over") (y := .str "rest")
    obtain ⟨b, g4, e4, G4, mb⟩ := small G3 (by omega)
    obtain ⟨c, g5, e5, G5, mc⟩ := small G4 (by omega)
    simp_arith! [e1, e2, e3, e4, e5, qi, Int.reduceBEq]
    exact ⟨_, _, rfl, G5.up (by omega), .deed (smalls_texts _ ma) (by rcases ms with rfl | rfl <;> simp) (smalls_texts _ mb) (smalls_texts _ mc)⟩
  · obtain ⟨a, g2, e2, G2, ma⟩ := any1 G1 (by omega)
    obtain ⟨s, g3, e3, G3, ms⟩ := pick1 G2 (by omega) (x := .str "less") (y := .str "same")
    obtain ⟨b, g4, e4, G4, mb⟩ := any1 G3 (by omega)
    obtain ⟨c, g5, e5, G5, mc⟩ := any1 G4 (by omega)
    simp_arith! [e1, e2, e3, e4, e5, qi, Int.reduceBEq]
    exact ⟨_, _, rfl, G5.up (by omega), .deed (anys_texts _ ma) (by rcases ms with rfl | rfl <;> simp) (anys_texts _ mb) (anys_texts _ mc)⟩
  · obtain ⟨a, g2, e2, G2, ma⟩ := pick1 G1 (by omega) (x := .str "n") (y := .str "total")
    obtain ⟨s, g3, e3, G3, ms⟩ := pick1 G2 (by omega) (x := .str "plus") (y := .str "minus")
    obtain ⟨b, g4, e4, G4, mb⟩ := any1 G3 (by omega)
    obtain ⟨c, g5, e5, G5, mc⟩ := small G4 (by omega)
    simp_arith! [e1, e2, e3, e4, e5, qi, Int.reduceBEq]
    exact ⟨_, _, rfl, G5.up (by omega), .deed (by rcases ma with rfl | rfl <;> simp [texts]) (by rcases ms with rfl | rfl <;> simp) (anys_texts _ mb) (smalls_texts _ mc)⟩
  · obtain ⟨a, g2, e2, G2, ma⟩ := pick1 G1 (by omega) (x := .str "n") (y := .str "total")
    obtain ⟨s, g3, e3, G3, ms⟩ := pick G2 (by omega) (xs := [.str "times", .str "over", .str "rest"]) (List.cons_ne_nil _ _) (by simp)
    have q1 : eqD (.str "times") (.str "times") = some (.d (.bool true)) := by kernel_rfl
    have q2 : eqD (.str "over") (.str "times") = some (.d (.bool false)) := by kernel_rfl
    have q3 : eqD (.str "rest") (.str "times") = some (.d (.bool false)) := by kernel_rfl
    simp only [List.mem_cons, List.not_mem_nil, or_false] at ms
    rcases ms with rfl | rfl | rfl
    · obtain ⟨b, g4, e4, G4, mb⟩ := small G3 (by omega)
      obtain ⟨c, g5, e5, G5, mc⟩ := small G4 (by omega)
      simp_arith! [e1, e2, e3, e4, e5, qi, q1, Int.reduceBEq]
      exact ⟨_, _, rfl, G5.up (by omega), .deed (by rcases ma with rfl | rfl <;> simp [texts]) (by simp) (smalls_texts _ mb) (smalls_texts _ mc)⟩
    · obtain ⟨b, g4, e4, G4, mb⟩ := any1 G3 (by omega)
      obtain ⟨c, g5, e5, G5, mc⟩ := small G4 (by omega)
      simp_arith! [e1, e2, e3, e4, e5, qi, q2, Int.reduceBEq]
      exact ⟨_, _, rfl, G5.up (by omega), .deed (by rcases ma with rfl | rfl <;> simp [texts]) (by simp) (anys_texts _ mb) (smalls_texts _ mc)⟩
    · obtain ⟨b, g4, e4, G4, mb⟩ := any1 G3 (by omega)
      obtain ⟨c, g5, e5, G5, mc⟩ := small G4 (by omega)
      simp_arith! [e1, e2, e3, e4, e5, qi, q3, Int.reduceBEq]
      exact ⟨_, _, rfl, G5.up (by omega), .deed (by rcases ma with rfl | rfl <;> simp [texts]) (by simp) (anys_texts _ mb) (smalls_texts _ mc)⟩
end Pi.K03


set_option linter.all false
set_option maxRecDepth 100000
set_option maxHeartbeats 800000
set_option autoImplicit false
namespace Pi.K03
open PySem
def params : List PyData := [.str "a", .str "n", .str "x1", .str "total"]
def eltM : PEnv → R Val := iteE (boolT (binE inDX (slotE 6) (lstE (consA (cstE (.str "a")) (consA (cstE (.str "x1")) (consA (cstE (.str "key")) (nilA))))))) (callE f__law_small (consA (slotE 0) (nilA))) (callE f__law_any (consA (slotE 0) (nilA)))
theorem elt {n : Int} {g : List PyData} (G : Gen n g) (hn : n < 2 ^ 48) {p : PyData} (hp : p ∈ params) (o1 o2 o3 o4 o5 : Option Slot) : ∃ v g', eltM [some (.bor g), o1, o2, o3, o4, o5, some (.val p)] = .ok (.d v) [some (.bor g'), o1, o2, o3, o4, o5, some (.val p)] ∧ Gen (n + 3) g' ∧ v ∈ texts := by
  obtain ⟨a, g1, e1, G1, m1⟩ := small G (by omega)
  obtain ⟨b, g2, e2, G2, m2⟩ := any1 G (by omega)
  have t1 : inDX (.str "a") (.list [.str "a", .str "x1", .str "key"]) = some (.d (.bool true)) := by kernel_rfl
  have t2 : inDX (.str "n") (.list [.str "a", .str "x1", .str "key"]) = some (.d (.bool false)) := by kernel_rfl
  have t3 : inDX (.str "x1") (.list [.str "a", .str "x1", .str "key"]) = some (.d (.bool true)) := by kernel_rfl
  have t4 : inDX (.str "total") (.list [.str "a", .str "x1", .str "key"]) = some (.d (.bool false)) := by kernel_rfl
  simp only [params, List.mem_cons, List.not_mem_nil, or_false] at hp
  unfold eltM
  rcases hp with rfl | rfl | rfl | rfl
  · simp_arith! [t1, e1]; exact ⟨_, _, rfl, G1, smalls_texts _ m1⟩
  · simp_arith! [t2, e2]; exact ⟨_, _, rfl, G2, anys_texts _ m2⟩
  · simp_arith! [t3, e1]; exact ⟨_, _, rfl, G1, smalls_texts _ m1⟩
  · simp_arith! [t4, e2]; exact ⟨_, _, rfl, G2, anys_texts _ m2⟩
/-- the names that are handed over -/
theorem names_drawn {n : Int} {g : List PyData} (G : Gen n g) (hn : n < 2 ^ 47) {ps : List PyData} (hps : ∀ p ∈ ps, p ∈ params) (hl : ps.length ≤ 2) (f label other : PyData) :
    ∃ vs g', lcE [6] (seqI (binE ixD2 (slotE 1) (cstE (.int 1)))) (nameG 6) yesT eltM [some (.bor g), some (.val (.tuple [f, .list ps])), some (.val label), some (.val other), none, none, none]
      = .ok (.new vs) [some (.bor g'), some (.val (.tuple [f, .list ps])), some (.val label), some (.val other), none, none, none] ∧ Gen (n + 6) g' ∧ vs.length = ps.length ∧ ∀ v ∈ vs, v ∈ texts := by
  match ps, hps, hl with
  | [], _, _ =>
    simp_arith! []
    exact ⟨_, _, rfl, G.up (by omega), rfl, fun _ h => nomatch h⟩
  | [p], hps, _ =>
    obtain ⟨v, g1, e1, G1, m1⟩ := elt G (by omega) (hps p (by simp)) (some (.val (.tuple [f, .list [p]]))) (some (.val label)) (some (.val other)) none none
    simp_arith! [e1]
    exact ⟨_, _, rfl, G1.up (by omega), rfl, by simpa using m1⟩
  | [p, q], hps, _ =>
    obtain ⟨v, g1, e1, G1, m1⟩ := elt G (by omega) (hps p (by simp)) (some (.val (.tuple [f, .list [p, q]]))) (some (.val label)) (some (.val other)) none none
    obtain ⟨u, g2, e2, G2, m2⟩ := elt G1 (by omega) (hps q (by simp)) (some (.val (.tuple [f, .list [p, q]]))) (some (.val label)) (some (.val other)) none none
    simp_arith! [e1, e2]
    exact ⟨_, _, rfl, G2.up (by omega), rfl, by simpa using ⟨m1, m2⟩⟩
theorem z_addT {xs ys : List PyData} : addD (.tuple xs) (.tuple ys) = if xs.length + ys.length ≤ 1000000 then some (.d (.tuple (xs ++ ys))) else none := rfl
theorem z_addL {xs ys : List PyData} : addD (.list xs) (.list ys) = if xs.length + ys.length ≤ 1000000 then some (.new (xs ++ ys)) else none := rfl
theorem z_tupleL {xs : List PyData} : tupleD [.list xs] = some (.d (.tuple xs)) := rfl
theorem call_drawn {n : Int} {g : List PyData} (G : Gen n g) (hn : n < 2 ^ 46) {ps : List PyData} (hps : ∀ p ∈ ps, p ∈ params) (hl : ps.length ≤ 2) (f label : PyData) :
    ∃ v g', f__law_drawn_call [.bor g, .d (.tuple [f, .list ps]), .d label, .d .none] = .ret (.d v) [g'] ∧ Gen (n + 20) g' ∧ ∃ x vs, x ∈ texts ∧ vs.length = ps.length ∧ (∀ a ∈ vs, a ∈ texts) ∧ v = .tuple [.str "call", x, f, .tuple vs, label] := by
  obtain ⟨vs, g1, e1, G1, l1, m1⟩ := names_drawn G (by omega) hps hl f label .none
  obtain ⟨x, g2, e2, G2, mx⟩ := pick1 G1 (by omega) (x := .str "n") (y := .str "total")
  unfold f__law_drawn_call m__law_drawn_call
  unfold eltM at e1
  have i1 : isD .none .none = some (.d (.bool true)) := rfl
  simp_all_arith [e1, e2, z_tupleL, i1]
  exact ⟨_, _, rfl, G2.up (by omega), x, vs, by rcases mx with rfl | rfl <;> simp [texts], l1, m1, rfl⟩
theorem try_drawn {n : Int} {g : List PyData} (G : Gen n g) (hn : n < 2 ^ 46) {ps : List PyData} (hps : ∀ p ∈ ps, p ∈ params) (hl : ps.length ≤ 2) (f label : PyData) (o : Str) :
    ∃ v g', f__law_drawn_call [.bor g, .d (.tuple [f, .list ps]), .d label, .d (.str o)] = .ret (.d v) [g'] ∧ Gen (n + 20) g' ∧ ∃ x y vs, x ∈ texts ∧ y ∈ texts ∧ vs.length = ps.length ∧ (∀ a ∈ vs, a ∈ texts) ∧ v = .tuple [.str "try", x, f, .tuple vs, label, y, .str o] := by
  obtain ⟨vs, g1, e1, G1, l1, m1⟩ := names_drawn G (by omega) hps hl f label (.str o)
  obtain ⟨x, g2, e2, G2, mx⟩ := pick1 G1 (by omega) (x := .str "n") (y := .str "total")
  obtain ⟨y, g3, e3, G3, my⟩ := pick1 G2 (by omega) (x := .str "n") (y := .str "total")
  unfold f__law_drawn_call m__law_drawn_call
  unfold eltM at e1
  have i1 : isD (.str o) .none = some (.d (.bool false)) := rfl
  simp_all_arith [e1, e2, e3, z_tupleL, i1, z_addT]
  exact ⟨_, _, rfl, G3.up (by omega), x, y, vs, by rcases mx with rfl | rfl <;> simp [texts], by rcases my with rfl | rfl <;> simp [texts], l1, m1, rfl⟩
end Pi.K03


set_option linter.all false
set_option maxRecDepth 100000
set_option maxHeartbeats 800000
set_option autoImplicit false
namespace Pi.K03
open PySem PySem.Spec PyProof.Rows L2
/-- data that can be compared, at most d deep -/
def Sh (d : Nat) (x : PyData) : Prop := PyData.canLay0 x = true ∧ PyData.depth x ≤ d
theorem Sh.up {d k : Nat} {x : PyData} (h : Sh d x) (l : d ≤ k) : Sh k x := ⟨h.1, Nat.le_trans h.2 l⟩
theorem sh_int (i : Int) : Sh 0 (.int i) := ⟨rfl, Nat.le_refl _⟩
theorem sh_none : Sh 0 .none := ⟨rfl, Nat.le_refl _⟩
theorem sh_bool (b : Bool) : Sh 0 (.bool b) := ⟨rfl, Nat.le_refl _⟩
theorem sh_text {x : PyData} (h : IsT x) : Sh 0 x := by
  obtain ⟨s, rfl, hs⟩ := h
  exact ⟨hs, Nat.le_refl _⟩
theorem sh_all {d : Nat} {xs : List PyData} (h : ∀ x ∈ xs, Sh d x) : PyData.canLayAll0 xs = true ∧ PyData.depthAll xs ≤ d := by
  induction xs with
  | nil => exact ⟨rfl, Nat.zero_le _⟩
  | cons x xs ih =>
    obtain ⟨h1, h2⟩ := ih fun y hy => h y (List.mem_cons_of_mem _ hy)
    obtain ⟨a, b⟩ := h x List.mem_cons_self
    exact ⟨by show (PyData.canLay0 x && PyData.canLayAll0 xs) = true; rw [a, h1]; rfl, Nat.max_le.mpr ⟨b, h2⟩⟩
theorem sh_list {d : Nat} {xs : List PyData} (h : ∀ x ∈ xs, Sh d x) : Sh (d + 1) (.list xs) := ⟨(sh_all h).1, Nat.succ_le_succ (sh_all h).2⟩
theorem sh_tuple {d : Nat} {xs : List PyData} (h : ∀ x ∈ xs, Sh d x) : Sh (d + 1) (.tuple xs) := ⟨(sh_all h).1, Nat.succ_le_succ (sh_all h).2⟩
theorem Sh.ok {d : Nat} {x : PyData} (h : Sh d x) (l : d ≤ 64) : SeqAt.shaped x = true := by
  show (PyData.canLay0 x && decide (PyData.depth x ≤ 64)) = true
  rw [h.1, decide_eq_true (Nat.le_trans h.2 l)]; rfl
theorem sh_nil : Sh 1 (.list []) := sh_list fun _ h => nomatch h
theorem eq_sh {d k : Nat} {x y : PyData} (hx : Sh d x) (hy : Sh k y) (h1 : d ≤ 64) (h2 : k ≤ 64) : eqD x y = some (.d (.bool (PyData.eqv x y))) := if_pos ⟨hx.ok h1, hy.ok h2⟩
theorem ne_sh {d k : Nat} {x y : PyData} (hx : Sh d x) (hy : Sh k y) (h1 : d ≤ 64) (h2 : k ≤ 64) : neD x y = some (.d (.bool (!PyData.eqv x y))) := if_pos ⟨hx.ok h1, hy.ok h2⟩
theorem eqv_nil (xs : List PyData) : PyData.eqv (.list xs) (.list []) = xs.isEmpty := by cases xs <;> rfl
theorem cut_mem {xs : List PyData} {l u : Option Int} {x : PyData} (h : x ∈ cutD xs l u) : x ∈ xs := List.mem_of_mem_drop (List.mem_of_mem_take h)
theorem cut_drop {xs : List PyData} {k : Int} (h : 0 ≤ k) : cutD xs (some k) none = xs.drop k.toNat := by
  obtain ⟨m, rfl⟩ := Int.eq_ofNat_of_zero_le h
  unfold cutD
  rw [HT.sIx_nat, show HT.sIx xs.length xs.length none = xs.length from rfl]
  by_cases z : m ≤ xs.length
  · rw [Nat.min_eq_left z, List.take_of_length_le (by simp)]; rfl
  · rw [Nat.min_eq_right (by omega), List.drop_eq_nil_of_le (Nat.le_refl _), show ((m : Nat) : Int).toNat = m from rfl, List.drop_eq_nil_of_le (show xs.length ≤ m by omega)]; simp
theorem cut_take {xs : List PyData} {k : Int} (h : 0 ≤ k) : cutD xs none (some k) = xs.take k.toNat := by
  obtain ⟨m, rfl⟩ := Int.eq_ofNat_of_zero_le h
  unfold cutD
  rw [HT.sIx_nat, show HT.sIx xs.length 0 none = 0 from rfl]
  by_cases z : m ≤ xs.length
  · rw [Nat.min_eq_left z]; simp
  · rw [Nat.min_eq_right (by omega), show ((m : Nat) : Int).toNat = m from rfl, List.take_of_length_le (show xs.length ≤ m by omega)]; simp
theorem cut_ne {xs : List PyData} {a b : Int} (h0 : 0 ≤ a) (h1 : a < xs.length) (h2 : a < b) : cutD xs (some a) (some b) ≠ [] := by
  obtain ⟨m, rfl⟩ := Int.eq_ofNat_of_zero_le h0
  obtain ⟨k, rfl⟩ := Int.eq_ofNat_of_zero_le (show 0 ≤ b by omega)
  unfold cutD
  rw [HT.sIx_nat, HT.sIx_nat]
  intro z
  have l := congrArg List.length z
  simp at l
  omega
theorem texts_T : ∀ x ∈ texts, IsT x := by
  intro x h
  simp only [texts, List.mem_cons, List.not_mem_nil, or_false] at h
  rcases h with rfl | rfl | rfl | rfl | rfl | rfl | rfl | rfl | rfl | rfl | rfl | rfl | rfl | rfl | rfl | rfl <;> exact ⟨_, rfl, by decide +kernel⟩
theorem params_texts : ∀ x ∈ params, x ∈ texts := by
  intro x h
  simp only [params, List.mem_cons, List.not_mem_nil, or_false] at h
  rcases h with rfl | rfl | rfl | rfl <;> simp [texts]
/-- a function's name and parameters, as they are drawn -/
def Sig (e : PyData) : Prop := ∃ f ps, e = .tuple [f, .list ps] ∧ f ∈ texts ∧ (∀ p ∈ ps, p ∈ params) ∧ ps.length ≤ 2
theorem Sig.sh {e : PyData} (h : Sig e) : Sh 2 e := by
  obtain ⟨f, ps, rfl, hf, hp, _⟩ := h
  refine sh_tuple fun x hx => ?_
  simp only [List.mem_cons, List.not_mem_nil, or_false] at hx
  rcases hx with rfl | rfl
  · exact (sh_text (texts_T _ hf)).up (by decide)
  · exact sh_list fun p hm => sh_text (texts_T _ (params_texts _ (hp p hm)))
theorem mul_mem {xs : List PyData} {k : Int} {r : Val} {n : Int} : True := trivial
/-- what a drawn end is -/
inductive End (labels known : List PyData) : PyData → Prop
  | ret {a : PyData} : a ∈ texts → End labels known (.tuple [.str "return", a])
  | rais {a : PyData} : a ∈ texts → End labels known (.tuple [.str "raise", a])
  | go {l : PyData} : l ∈ labels → End labels known (.tuple [.str "go", l])
  | test {a l m : PyData} : a ∈ texts → l ∈ labels → m ∈ labels → End labels known (.tuple [.str "test", a, l, m])
  | loop {a l m : PyData} : a ∈ texts → l ∈ labels → m ∈ labels → End labels known (.tuple [.str "loop", a, l, m])
  | call {x f l : PyData} {ps vs : List PyData} : x ∈ texts → .tuple [f, .list ps] ∈ known → vs.length = ps.length → (∀ a ∈ vs, a ∈ texts) → l ∈ labels → End labels known (.tuple [.str "call", x, f, .tuple vs, l])
  | try_ {x y f l m : PyData} {ps vs : List PyData} : x ∈ texts → y ∈ texts → .tuple [f, .list ps] ∈ known → vs.length = ps.length → (∀ a ∈ vs, a ∈ texts) → l ∈ labels → m ∈ labels → End labels known (.tuple [.str "try", x, f, .tuple vs, l, y, m])
end Pi.K03


set_option linter.all false
set_option maxRecDepth 100000
set_option maxHeartbeats 1600000
set_option autoImplicit false
namespace Pi.K03
open PySem
def de1 : PEnv → R Flow := asgS 6 false (iteE (boolT (binE eqD (slotE 1) (cstE (.int 2)))) (slotE 2) (slE (slotE 2) (some (binE addD (slotE 3) (cstE (.int 1)))) (none)))
def de2 : PEnv → R Flow := par2S 7 false (binE ixD2 (lstE (consA (slE (slotE 4) (some (binE addD (slotE 5) (cstE (.int 1)))) (none)) (consA (slE (slotE 4) (some (cstE (.int 1))) (none)) (consA (binE addD (slE (slotE 4) (some (cstE (.int 1))) (none)) (slotE 4)) (nilA))))) (slotE 1)) 8 false (binE eqD (binE addD (slotE 3) (cstE (.int 1))) (bltE lenD (consA (slotE 2) (nilA))))
def de3 : PEnv → R Flow := ifS (orT (boolT (binE eqD (slotE 6) (lstE (nilA)))) (boolT (binE ltD (callE f__law_random (consA (slotE 0) (consA (iteE (truT (slotE 8)) (cstE (.int 3)) (cstE (.int 24))) (nilA)))) (binE addD (cstE (.int 1)) (bltE intD (consA (slotE 8) (nilA))))))) (retS (tupE (consA (callE f__law_pick (consA (slotE 0) (consA (lstE (consA (cstE (.str "return")) (consA (cstE (.str "return")) (consA (cstE (.str "raise")) (nilA))))) (nilA)))) (consA (callE f__law_any (consA (slotE 0) (nilA))) (nilA))))) (skipS)
def de4 : PEnv → R Flow := asgS 9 false (iteE (andT (boolT (binE gtD (callE f__law_random (consA (slotE 0) (consA (cstE (.int 3)) (nilA)))) (cstE (.int 0)))) (notT (truT (slotE 8)))) (slE (slotE 2) (some (binE addD (slotE 3) (cstE (.int 1)))) (some (binE addD (slotE 3) (cstE (.int 3))))) (slotE 6))
def de5 : PEnv → R Flow := asgS 10 false (binE addD (lstE (consA (cstE (.str "go")) (consA (cstE (.str "test")) (consA (cstE (.str "test")) (consA (cstE (.str "test")) (consA (cstE (.str "loop")) (consA (cstE (.str "loop")) (nilA)))))))) (binE mulLD (binE mulLD (lstE (consA (cstE (.str "call")) (consA (cstE (.str "call")) (consA (cstE (.str "try")) (consA (cstE (.str "try")) (nilA)))))) (binE subD (cstE (.int 6)) (binE mulD (cstE (.int 2)) (bltE minD (consA (slotE 3) (consA (cstE (.int 2)) (nilA))))))) (bltE intD (consA (binE neD (slotE 7) (lstE (nilA))) (nilA)))))
def de6 : PEnv → R Flow := par2S 11 false (callE f__law_pick (consA (slotE 0) (consA (slotE 10) (nilA)))) 12 false (callE f__law_pick (consA (slotE 0) (consA (slotE 9) (nilA))))
def de7 : PEnv → R Flow := ifS (boolT (binE eqD (slotE 11) (cstE (.str "go")))) (retS (tupE (consA (cstE (.str "go")) (consA (slotE 12) (nilA))))) (skipS)
def de8 : PEnv → R Flow := ifS (boolT (binE eqD (slotE 11) (cstE (.str "test")))) (retS (tupE (consA (cstE (.str "test")) (consA (callE f__law_any (consA (slotE 0) (nilA))) (consA (slotE 12) (consA (callE f__law_pick (consA (slotE 0) (consA (slotE 6) (nilA)))) (nilA))))))) (skipS)
def de9 : PEnv → R Flow := ifS (boolT (binE eqD (slotE 11) (cstE (.str "loop")))) (retS (tupE (consA (cstE (.str "loop")) (consA (callE f__law_small (consA (slotE 0) (nilA))) (consA (callE f__law_pick (consA (slotE 0) (consA (slE (slotE 2) (none) (some (binE addD (slotE 3) (cstE (.int 1))))) (nilA)))) (consA (slotE 12) (nilA))))))) (skipS)
def de10 : PEnv → R Flow := retS (callE f__law_drawn_call (consA (slotE 0) (consA (callE f__law_pick (consA (slotE 0) (consA (slotE 7) (nilA)))) (consA (slotE 12) (consA (iteE (boolT (binE eqD (slotE 11) (cstE (.str "try")))) (callE f__law_pick (consA (slotE 0) (consA (slotE 6) (nilA)))) (cstE .none)) (nilA))))))
theorem end_split : m__law_drawn_end = seqS de1 (seqS de2 (seqS de3 (seqS de4 (seqS de5 (seqS de6 (seqS de7 (seqS de8 (seqS de9 de10)))))))) := rfl

theorem cut_len (xs : List PyData) (l u : Option Int) : (cutD xs l u).length ≤ xs.length := by
  unfold cutD
  rw [List.length_take, List.length_drop]
  omega
theorem z_par {i j : Nat} {o u : Bool} {ma mb : PEnv → R Val} {env : PEnv} : par2S i o ma j u mb env = (ma env).bindO o (fun ra env => (mb env).bindO u fun rb env => (asgV i o ra env).thenS fun env => (asgV j u rb env).thenS skipS) := rfl
theorem z_bindO_t {m : R Val} {f : Val → PEnv → R Flow} : m.bindO true f = m.bind f := rfl
theorem z_bindO_f {m : R Val} {f : Val → PEnv → R Flow} : m.bindO false f = m.bindF f := rfl
section
variable {n : Int} {g : List PyData} {labels known A C N W : List PyData} {style at_ own : Int} {x y : PyData} {b : Bool}
abbrev ev0 (g : List PyData) (style : Int) (labels : List PyData) (at_ : Int) (known : List PyData) (own : Int) (t : PEnv) : PEnv := some (.bor g) :: some (.val (.int style)) :: some (.val (.list labels)) :: some (.val (.int at_)) :: some (.val (.list known)) :: some (.val (.int own)) :: t
theorem s1 (hs : style = 0 ∨ style = 1 ∨ style = 2) : ∃ A, (∀ l ∈ A, l ∈ labels) ∧ A.length ≤ labels.length ∧ de1 (ev0 g style labels at_ known own [none, none, none, none, none, none, none]) = .ok .nx (ev0 g style labels at_ known own [some (.val (.list A)), none, none, none, none, none, none]) := by
  unfold de1 ev0
  rcases hs with rfl | rfl | rfl
  · simp_all_arith [z_eqI, Int.reduceBEq]
    exact ⟨_, fun _ h => cut_mem h, cut_len _ _ _, rfl⟩
  · simp_all_arith [z_eqI, Int.reduceBEq]
    exact ⟨_, fun _ h => cut_mem h, cut_len _ _ _, rfl⟩
  · simp_all_arith [z_eqI, Int.reduceBEq]
    exact ⟨_, fun _ h => h, Nat.le_refl _, rfl⟩
theorem s2 (hs : style = 0 ∨ style = 1 ∨ style = 2) (hk : known.length ≤ 8) : ∃ C, (∀ e ∈ C, e ∈ known) ∧ C.length ≤ 16 ∧ de2 (ev0 g style labels at_ known own [some (.val (.list A)), none, none, none, none, none, none]) = .ok .nx (ev0 g style labels at_ known own [some (.val (.list A)), some (.val (.list C)), some (.val (.bool (at_ + 1 == (labels.length : Int)))), none, none, none, none]) := by
  unfold de2 ev0
  have hc : ((Pi.cutD known (some 1) none).length + known.length ≤ 1000000) = True := eq_true (by
    have := cut_len known (some 1) none
    omega)
  rcases hs with rfl | rfl | rfl
  · simp_all_arith [z_par, z_bindO_f, z_eqI, z_addL, hc, Int.reduceBEq]
    exact ⟨_, fun _ h => cut_mem h, Nat.le_trans (cut_len _ _ _) (by omega), rfl⟩
  · simp_all_arith [z_par, z_bindO_f, z_eqI, z_addL, hc, Int.reduceBEq]
    exact ⟨_, fun _ h => cut_mem h, Nat.le_trans (cut_len _ _ _) (by omega), rfl⟩
  · simp_all_arith [z_par, z_bindO_f, z_eqI, z_addL, hc, Int.reduceBEq]
    exact ⟨_, fun e h => (List.mem_append.mp h).elim cut_mem id, by have := cut_len known (some 1) none; rw [List.length_append]; omega, rfl⟩
abbrev ev1 (g : List PyData) (style : Int) (labels : List PyData) (at_ : Int) (known : List PyData) (own : Int) (A C : List PyData) (b : Bool) (t : PEnv) : PEnv := ev0 g style labels at_ known own (some (.val (.list A)) :: some (.val (.list C)) :: some (.val (.bool b)) :: t)
theorem sub_nil (h : ∀ l ∈ A, IsT l) : eqD (.list A) (.list []) = some (.d (.bool A.isEmpty)) := by
  rw [eq_sh (sh_list fun x hx => sh_text (h x hx)) sh_nil (by decide) (by decide), eqv_nil]
theorem s3 (G : Gen n g) (hn : n < 2 ^ 46) (hA : ∀ l ∈ A, IsT l) : ∃ g', Gen (n + 9) g' ∧ ((∃ v, de3 (ev1 g style labels at_ known own A C b [none, none, none, none]) = .ok (.ret (.d v)) (ev1 g' style labels at_ known own A C b [none, none, none, none]) ∧ End labels known v) ∨
    (A ≠ [] ∧ de3 (ev1 g style labels at_ known own A C b [none, none, none, none]) = .ok .nx (ev1 g' style labels at_ known own A C b [none, none, none, none]))) := by
  have back : ∀ {k : Int} {g1 : List PyData}, Gen k g1 → k < 2 ^ 47 → ∃ w a g2 g3, f__law_pick [.bor g1, .d (.list [.str "return", .str "return", .str "raise"])] = .ret (.d w) [g2] ∧ f__law_any [.bor g2] = .ret (.d a) [g3] ∧ Gen (k + 6) g3 ∧ End labels known (.tuple [w, a]) := by
    intro k g1 G1 h1
    obtain ⟨w, g2, e2, G2, m2⟩ := pick G1 (by omega) (xs := [.str "return", .str "return", .str "raise"]) (List.cons_ne_nil _ _) (by simp)
    obtain ⟨a, g3, e3, G3, m3⟩ := any1 G2 (by omega)
    refine ⟨w, a, g2, g3, e2, e3, G3.up (by omega), ?_⟩
    simp only [List.mem_cons, List.not_mem_nil, or_false] at m2
    rcases m2 with rfl | rfl | rfl
    · exact .ret (anys_texts _ m3)
    · exact .ret (anys_texts _ m3)
    · exact .rais (anys_texts _ m3)
  unfold de3 ev1 ev0
  cases A with
  | nil =>
    obtain ⟨w, a, g2, g3, e2, e3, G3, m⟩ := back G (by omega)
    have z := sub_nil (A := []) (fun _ h => nomatch h)
    simp_all_arith [z, List.isEmpty_nil, e2, e3]
    exact ⟨_, G3.up (by omega), .inl ⟨_, rfl, m⟩⟩
  | cons l ls =>
    have z := sub_nil hA
    cases b with
    | true =>
      obtain ⟨k, g1, e1, G1, k0, k1⟩ := rnd G (by omega) (b := 3) (by decide) (by decide)
      by_cases h : k < 2
      · obtain ⟨w, a, g2, g3, e2, e3, G3, m⟩ := back G1 (by omega)
        simp_all_arith [z, List.isEmpty_cons, e1, h, e2, e3]
        exact ⟨_, G3.up (by omega), .inl ⟨_, rfl, m⟩⟩
      · simp_all_arith [z, List.isEmpty_cons, e1, h]
        exact ⟨_, G1.up (by omega), .inr ⟨List.cons_ne_nil _ _, rfl⟩⟩
    | false =>
      obtain ⟨k, g1, e1, G1, k0, k1⟩ := rnd G (by omega) (b := 24) (by decide) (by decide)
      by_cases h : k < 1
      · obtain ⟨w, a, g2, g3, e2, e3, G3, m⟩ := back G1 (by omega)
        simp_all_arith [z, List.isEmpty_cons, e1, h, e2, e3, Bool.false_eq_true]
        exact ⟨_, G3.up (by omega), .inl ⟨_, rfl, m⟩⟩
      · simp_all_arith [z, List.isEmpty_cons, e1, h, Bool.false_eq_true]
        exact ⟨_, G1.up (by omega), .inr ⟨List.cons_ne_nil _ _, rfl⟩⟩
theorem s4 (G : Gen n g) (hn : n < 2 ^ 46) (hA : ∀ l ∈ A, l ∈ labels) (ne : A ≠ []) (h0 : 0 ≤ at_) (h1 : at_ < labels.length) (hb : b = (at_ + 1 == (labels.length : Int))) : ∃ N g', Gen (n + 3) g' ∧ (∀ l ∈ N, l ∈ labels) ∧ N ≠ [] ∧ N.length ≤ A.length + labels.length ∧
    de4 (ev1 g style labels at_ known own A C b [none, none, none, none]) = .ok .nx (ev1 g' style labels at_ known own A C b [some (.val (.list N)), none, none, none]) := by
  obtain ⟨k, g1, e1, G1, k0, k1⟩ := rnd G (by omega) (b := 3) (by decide) (by decide)
  unfold de4 ev1 ev0
  by_cases h : 0 < k
  · cases b with
    | true =>
      simp_all_arith [e1, h]
      exact ⟨_, _, G1, hA, ne, by omega, rfl⟩
    | false =>
      have hz : at_ + 1 ≠ labels.length := fun z => by rw [z] at hb; simp at hb
      simp_all_arith [e1, h]
      exact ⟨_, _, G1, fun _ m => cut_mem m, cut_ne (by omega) (by omega) (by omega), by have := cut_len labels (some (at_ + 1)) (some (at_ + 3)); omega, rfl⟩
  · simp_all_arith [e1, h]
    exact ⟨_, _, G1, hA, ne, by omega, rfl⟩
def Kind (C : List PyData) (w : PyData) : Prop := w = .str "go" ∨ w = .str "test" ∨ w = .str "loop" ∨ (C ≠ [] ∧ (w = .str "call" ∨ w = .str "try"))
theorem s5 (hC : ∀ e ∈ C, Sig e) (h0 : 0 ≤ at_) : ∃ W, (∀ w ∈ W, Kind C w) ∧ W ≠ [] ∧ W.length ≤ 100 ∧ de5 (ev1 g style labels at_ known own A C b [some (.val (.list N)), none, none, none]) = .ok .nx (ev1 g style labels at_ known own A C b [some (.val (.list N)), some (.val (.list W)), none, none]) := by
  have zC : neD (.list C) (.list []) = some (.d (.bool (!C.isEmpty))) := by
    rw [ne_sh (sh_list fun x hx => (hC x hx).sh) sh_nil (by decide) (by decide), eqv_nil]
  have mn : ∃ m : Int, minD [.int at_, .int 2] = some (.d (.int m)) ∧ 0 ≤ m ∧ m ≤ 2 := by
    by_cases z : 2 < at_
    · exact ⟨2, by show some (Val.d (.int (if (2 : Int) < at_ then 2 else at_))) = _; rw [if_pos z], by decide, by decide⟩
    · exact ⟨at_, by show some (Val.d (.int (if (2 : Int) < at_ then 2 else at_))) = _; rw [if_neg z], h0, by omega⟩
  obtain ⟨m, em, m0, m2⟩ := mn
  have c1 : (0 ≤ 6 - 2 * m ∧ 6 - 2 * m ≤ 1000) = True := eq_true (by omega)
  have q : ∀ (xs : List PyData) (k : Int), mulLD (.list xs) (.int k) = if 0 ≤ k ∧ k ≤ 1000 ∧ xs.length ≤ 1000 then some (.new (List.replicate k.toNat xs).flatten) else none := fun _ _ => rfl
  have l1 : ∀ k : Int, (List.replicate k.toNat [PyData.str "call", PyData.str "call", PyData.str "try", PyData.str "try"]).flatten.length = 4 * k.toNat := fun k => by
    rw [List.length_flatten]; simp; omega
  have c2 : (0 ≤ 6 - 2 * m ∧ 6 - 2 * m ≤ 1000 ∧ 4 ≤ 1000) = True := eq_true (by omega)
  have c3 : ((List.replicate (6 - 2 * m).toNat [PyData.str "call", PyData.str "call", PyData.str "try", PyData.str "try"]).flatten.length ≤ 1000) = True := eq_true (by rw [l1]; omega)
  have base : ∀ w ∈ [PyData.str "go", PyData.str "test", PyData.str "test", PyData.str "test", PyData.str "loop", PyData.str "loop"], Kind C w := by
    intro w h
    simp only [List.mem_cons, List.not_mem_nil, or_false] at h
    rcases h with rfl | rfl | rfl | rfl | rfl | rfl
    · exact .inl rfl
    · exact .inr (.inl rfl)
    · exact .inr (.inl rfl)
    · exact .inr (.inl rfl)
    · exact .inr (.inr (.inl rfl))
    · exact .inr (.inr (.inl rfl))
  unfold de5 ev1 ev0
  cases C with
  | nil =>
    have c4 : (0 ≤ (0 : Int) ∧ (0 : Int) ≤ 1000 ∧ (List.replicate (6 - 2 * m).toNat [PyData.str "call", PyData.str "call", PyData.str "try", PyData.str "try"]).flatten.length ≤ 1000) = True := eq_true ⟨by decide, by decide, by rw [l1]; omega⟩
    have e0 : ∀ xs : List PyData, (List.replicate (0 : Int).toNat xs).flatten = [] := fun _ => rfl
    simp_all_arith [zC, em, q, c1, c2, c3, c4, e0, z_addL, List.isEmpty_nil, Bool.false_eq_true, List.append_nil, Nat.add_zero]
    exact ⟨_, base, List.cons_ne_nil _ _, by simp, rfl⟩
  | cons e es =>
    have c4 : (0 ≤ (1 : Int) ∧ (1 : Int) ≤ 1000 ∧ (List.replicate (6 - 2 * m).toNat [PyData.str "call", PyData.str "call", PyData.str "try", PyData.str "try"]).flatten.length ≤ 1000) = True := eq_true ⟨by decide, by decide, by rw [l1]; omega⟩
    have l2 : (List.replicate (1 : Int).toNat (List.replicate (6 - 2 * m).toNat [PyData.str "call", PyData.str "call", PyData.str "try", PyData.str "try"]).flatten).flatten.length = 4 * (6 - 2 * m).toNat := by
      show (List.replicate 1 _).flatten.length = _
      rw [show (List.replicate 1 (List.replicate (6 - 2 * m).toNat [PyData.str "call", PyData.str "call", PyData.str "try", PyData.str "try"]).flatten).flatten = (List.replicate (6 - 2 * m).toNat [PyData.str "call", PyData.str "call", PyData.str "try", PyData.str "try"]).flatten by simp, l1]
    have c5 : (6 + (List.replicate (1 : Int).toNat (List.replicate (6 - 2 * m).toNat [PyData.str "call", PyData.str "call", PyData.str "try", PyData.str "try"]).flatten).flatten.length ≤ 1000000) = True := eq_true (by rw [l2]; omega)
    simp_all_arith [zC, em, q, c1, c2, c3, c4, z_addL, List.isEmpty_cons, c5]
    refine ⟨_, fun w h => ?_, List.cons_ne_nil _ _, ?_, rfl⟩
    · have h : w ∈ [PyData.str "go", PyData.str "test", PyData.str "test", PyData.str "test", PyData.str "loop", PyData.str "loop"] ++ (List.replicate (1 : Int).toNat (List.replicate (6 - 2 * m).toNat [PyData.str "call", PyData.str "call", PyData.str "try", PyData.str "try"]).flatten).flatten := h
      rcases List.mem_append.mp h with h | h
      · exact base w h
      · obtain ⟨l, hl, hw⟩ := List.mem_flatten.mp h
        have hl := List.eq_of_mem_replicate hl
        subst hl
        obtain ⟨l, hl, hw⟩ := List.mem_flatten.mp hw
        have hl := List.eq_of_mem_replicate hl
        subst hl
        refine .inr (.inr (.inr ⟨List.cons_ne_nil _ _, ?_⟩))
        simp only [List.mem_cons, List.not_mem_nil, or_false] at hw
        rcases hw with rfl | rfl | rfl | rfl
        · exact .inl rfl
        · exact .inl rfl
        · exact .inr rfl
        · exact .inr rfl
    · show ([PyData.str "go", PyData.str "test", PyData.str "test", PyData.str "test", PyData.str "loop", PyData.str "loop"] ++ (List.replicate (1 : Int).toNat (List.replicate (6 - 2 * m).toNat [PyData.str "call", PyData.str "call", PyData.str "try", PyData.str "try"]).flatten).flatten).length ≤ 100
      rw [List.length_append, l2]
      simp
      omega
theorem s6 (G : Gen n g) (hn : n < 2 ^ 46) (hW : W ≠ []) (lW : W.length ≤ 100) (hN : N ≠ []) (lN : N.length ≤ 100) : ∃ w l g', w ∈ W ∧ l ∈ N ∧ Gen (n + 6) g' ∧
    de6 (ev1 g style labels at_ known own A C b [some (.val (.list N)), some (.val (.list W)), none, none]) = .ok .nx (ev1 g' style labels at_ known own A C b [some (.val (.list N)), some (.val (.list W)), some (.val w), some (.val l)]) := by
  obtain ⟨w, g1, e1, G1, m1⟩ := pick G (by omega) hW (by omega)
  obtain ⟨l, g2, e2, G2, m2⟩ := pick G1 (by omega) hN (by omega)
  unfold de6 ev1 ev0
  simp_all_arith [z_par, z_bindO_f, e1, e2]
  exact ⟨w, l, _, m1, m2, G2.up (by omega), rfl⟩
abbrev tailS : PEnv → R Flow := seqS de7 (seqS de8 (seqS de9 de10))
theorem s7 (G : Gen n g) (hn : n < 2 ^ 45) (hA : ∀ l ∈ A, l ∈ labels) (nA : A ≠ []) (lL : labels.length ≤ 100) (lA : A.length ≤ 100) (hl : ∀ l ∈ labels, l ∈ texts) (h0 : 0 ≤ at_) (h1 : at_ < labels.length) (hC : ∀ e ∈ C, Sig e ∧ e ∈ known) (lC : C.length ≤ 100) {w l : PyData} (hw : Kind C w) (ml : l ∈ labels) (N W : List PyData) :
    ∃ v g', Gen (n + 26) g' ∧ End labels known v ∧ tailS (ev1 g style labels at_ known own A C b [some (.val (.list N)), some (.val (.list W)), some (.val w), some (.val l)]) = .ok (.ret (.d v)) (ev1 g' style labels at_ known own A C b [some (.val (.list N)), some (.val (.list W)), some (.val w), some (.val l)]) := by
  unfold tailS de7 de8 de9 de10 ev1 ev0
  rcases hw with rfl | rfl | rfl | ⟨nC, hw⟩
  · have q1 : eqD (.str "go") (.str "go") = some (.d (.bool true)) := by kernel_rfl
    simp_all_arith [q1]
    exact ⟨_, _, G.up (by omega), .go ml, rfl⟩
  · have q1 : eqD (.str "test") (.str "go") = some (.d (.bool false)) := by kernel_rfl
    have q2 : eqD (.str "test") (.str "test") = some (.d (.bool true)) := by kernel_rfl
    obtain ⟨a, g1, e1, G1, m1⟩ := any1 G (by omega)
    obtain ⟨m, g2, e2, G2, m2⟩ := pick G1 (by omega) nA (by omega)
    simp_all_arith [q1, q2, e1, e2]
    exact ⟨_, _, G2.up (by omega), .test (anys_texts _ m1) ml (hA _ m2), rfl⟩
  · have q1 : eqD (.str "loop") (.str "go") = some (.d (.bool false)) := by kernel_rfl
    have q2 : eqD (.str "loop") (.str "test") = some (.d (.bool false)) := by kernel_rfl
    have q3 : eqD (.str "loop") (.str "loop") = some (.d (.bool true)) := by kernel_rfl
    obtain ⟨a, g1, e1, G1, m1⟩ := small G (by omega)
    have nT : cutD labels none (some (at_ + 1)) ≠ [] := by
      rw [cut_take (by omega)]
      intro z
      have := congrArg List.length z
      simp at this
      rcases this with h | h
      · omega
      · rw [h] at h1; simp at h1; omega
    obtain ⟨m, g2, e2, G2, m2⟩ := pick G1 (by omega) nT (by have := cut_len labels none (some (at_ + 1)); omega)
    simp_all_arith [q1, q2, q3, e1, e2]
    exact ⟨_, _, G2.up (by omega), .loop (smalls_texts _ m1) (cut_mem m2) ml, rfl⟩
  · obtain ⟨e, g1, e1, G1, m1⟩ := pick G (by omega) nC (by omega)
    obtain ⟨⟨f, ps, rfl, hf, hp, hpl⟩, mk⟩ := hC e m1
    rcases hw with rfl | rfl
    · have q1 : eqD (.str "call") (.str "go") = some (.d (.bool false)) := by kernel_rfl
      have q2 : eqD (.str "call") (.str "test") = some (.d (.bool false)) := by kernel_rfl
      have q3 : eqD (.str "call") (.str "loop") = some (.d (.bool false)) := by kernel_rfl
      have q4 : eqD (.str "call") (.str "try") = some (.d (.bool false)) := by kernel_rfl
      obtain ⟨v, g2, e2, G2, x, vs, mx, lv, mv, rfl⟩ := call_drawn G1 (by omega) hp hpl f l
      simp_all_arith [q1, q2, q3, q4, e1, e2]
      exact ⟨_, _, G2.up (by omega), .call mx mk lv mv ml, rfl⟩
    · have q1 : eqD (.str "try") (.str "go") = some (.d (.bool false)) := by kernel_rfl
      have q2 : eqD (.str "try") (.str "test") = some (.d (.bool false)) := by kernel_rfl
      have q3 : eqD (.str "try") (.str "loop") = some (.d (.bool false)) := by kernel_rfl
      have q4 : eqD (.str "try") (.str "try") = some (.d (.bool true)) := by kernel_rfl
      obtain ⟨m, g2, e2, G2, m2⟩ := pick G1 (by omega) nA (by omega)
      obtain ⟨o, rfl, _⟩ := texts_T m (hl _ (hA _ m2))
      obtain ⟨v, g3, e3, G3, x, y, vs, mx, my, lv, mv, rfl⟩ := try_drawn G2 (by omega) hp hpl f l o
      simp_all_arith [q1, q2, q3, q4, e1, e2, e3]
      exact ⟨_, _, G3.up (by omega), .try_ mx my mk lv mv ml (hA _ m2), rfl⟩
theorem end_drawn (G : Gen n g) (hn : n < 2 ^ 44) (hs : style = 0 ∨ style = 1 ∨ style = 2) (hl : ∀ l ∈ labels, l ∈ texts) (lL : labels.length ≤ 8) (h0 : 0 ≤ at_) (h1 : at_ < labels.length) (hk : ∀ e ∈ known, Sig e) (lk : known.length ≤ 8) :
    ∃ v g', f__law_drawn_end [.bor g, .d (.int style), .d (.list labels), .d (.int at_), .d (.list known), .d (.int own)] = .ret (.d v) [g'] ∧ Gen (n + 50) g' ∧ End labels known v := by
  obtain ⟨A, hA, lA, e1⟩ := s1 (g := g) (labels := labels) (at_ := at_) (known := known) (own := own) hs
  obtain ⟨C, hC, lC, e2⟩ := s2 (g := g) (labels := labels) (at_ := at_) (known := known) (own := own) (A := A) hs lk
  obtain ⟨g1, G1, e3⟩ := s3 (labels := labels) (known := known) (style := style) (at_ := at_) (own := own) (C := C) (b := (at_ + 1 == (labels.length : Int))) G (by omega) (fun l h => texts_T _ (hl _ (hA l h)))
  have start : f__law_drawn_end [.bor g, .d (.int style), .d (.list labels), .d (.int at_), .d (.list known), .d (.int own)] = endF [.bor g, .d (.int style), .d (.list labels), .d (.int at_), .d (.list known), .d (.int own)] (m__law_drawn_end (ev0 g style labels at_ known own [none, none, none, none, none, none, none])) := by
    unfold f__law_drawn_end ev0
    simp_arith []
  rw [start, end_split, z_seq, e1, z_then_nx, z_seq, e2, z_then_nx, z_seq]
  rcases e3 with ⟨v, e3, m⟩ | ⟨nA, e3⟩
  · rw [show (ev0 g style labels at_ known own [some (.val (.list A)), some (.val (.list C)), some (.val (.bool (at_ + 1 == (labels.length : Int)))), none, none, none, none]) = ev1 g style labels at_ known own A C (at_ + 1 == (labels.length : Int)) [none, none, none, none] from rfl, e3, z_then_ret]
    refine ⟨v, g1, ?_, G1.up (by omega), m⟩
    unfold ev1 ev0
    simp_arith []
  · obtain ⟨N, g2, G2, hN, nN, lN, e4⟩ := s4 (known := known) (style := style) (own := own) (C := C) G1 (by omega) hA nA h0 h1 rfl
    obtain ⟨W, hW, nW, lW, e5⟩ := s5 (g := g2) (style := style) (labels := labels) (at_ := at_) (known := known) (own := own) (A := A) (C := C) (N := N) (b := (at_ + 1 == (labels.length : Int))) (fun e h => hk _ (hC e h)) h0
    obtain ⟨w, l, g3, mw, ml, G3, e6⟩ := s6 (style := style) (labels := labels) (at_ := at_) (known := known) (own := own) (A := A) (C := C) (b := (at_ + 1 == (labels.length : Int))) G2 (by omega) nW lW nN (by omega)
    obtain ⟨v, g4, G4, m, e7⟩ := s7 (style := style) (own := own) (b := (at_ + 1 == (labels.length : Int))) G3 (by omega) hA nA (by omega) (by omega) hl h0 h1 (fun e h => ⟨hk _ (hC e h), hC e h⟩) (by omega) (hW w mw) (hN l ml) N W
    rw [show (ev0 g style labels at_ known own [some (.val (.list A)), some (.val (.list C)), some (.val (.bool (at_ + 1 == (labels.length : Int)))), none, none, none, none]) = ev1 g style labels at_ known own A C (at_ + 1 == (labels.length : Int)) [none, none, none, none] from rfl, e3, z_then_nx, z_seq, e4, z_then_nx, z_seq, e5, z_then_nx, z_seq, e6, z_then_nx]
    rw [show (seqS de7 (seqS de8 (seqS de9 de10))) = tailS from rfl, e7]
    refine ⟨v, g4, ?_, G4.up (by omega), m⟩
    unfold ev1 ev0
    simp_arith []
end
end Pi.K03


set_option linter.all false
set_option maxRecDepth 100000
set_option maxHeartbeats 1600000
set_option autoImplicit false
namespace Pi.K03
open PySem
def db1 : PEnv → R Flow := asgS 7 false (lcE [10] (range1I (callE f__law_random (consA (slotE 0) (consA (cstE (.int 4)) (nilA))))) (nameG 10) (yesT) (callE f__law_drawn_step (consA (slotE 0) (nilA))))
def db2 : PEnv → R Flow := ifS (andT (boolT (binE eqD (slotE 1) (cstE (.int 1)))) (andT (boolT (binE eqD (slotE 4) (cstE (.int 0)))) (andT (boolT (binE gtD (slotE 6) (cstE (.int 0)))) (boolT (binE gtD (bltE lenD (consA (slotE 3) (nilA))) (cstE (.int 1))))))) (seqS (asgS 8 false (callE f__law_small (consA (slotE 0) (nilA)))) (retS (tupE (consA (binE ixD2 (slotE 3) (cstE (.int 0))) (consA (binE addD (slotE 7) (lstE (consA (tupE (consA (cstE (.str "read")) (consA (slotE 8) (nilA)))) (nilA)))) (consA (tupE (consA (cstE (.str "test")) (consA (slotE 8) (consA (binE ixD2 (slotE 3) (cstE (.int 1))) (consA (binE ixD2 (slotE 3) (cstE (.int (-1)))) (nilA)))))) (nilA))))))) (skipS)
def db3 : PEnv → R Flow := asgS 9 false (callE f__law_drawn_end (consA (slotE 0) (consA (slotE 1) (consA (slotE 3) (consA (slotE 4) (consA (slotE 5) (consA (slotE 6) (nilA))))))))
def db4 : PEnv → R Flow := ifS (orT (boolT (binE eqD (binE ixD2 (slotE 9) (cstE (.int 0))) (cstE (.str "loop")))) (andT (boolT (binE eqD (binE ixD2 (slotE 9) (cstE (.int 0))) (cstE (.str "test")))) (truT (slotE 2)))) (retS (tupE (consA (binE ixD2 (slotE 3) (slotE 4)) (consA (binE addD (slotE 7) (lstE (consA (tupE (consA (cstE (.str "read")) (consA (binE ixD2 (slotE 9) (cstE (.int 1))) (nilA)))) (nilA)))) (consA (binE addD (tupE (consA (cstE (.str "test")) (nilA))) (slE (slotE 9) (some (cstE (.int 1))) (none))) (nilA)))))) (skipS)
def db5 : PEnv → R Flow := retS (tupE (consA (binE ixD2 (slotE 3) (slotE 4)) (consA (slotE 7) (consA (slotE 9) (nilA)))))
theorem block_split : m__law_drawn_block = seqS db1 (seqS db2 (seqS db3 (seqS db4 db5))) := rfl
section
variable {n : Int} {g : List PyData} {labels known S : List PyData} {style at_ own : Int} {x y : PyData}
abbrev bv (g : List PyData) (style : Int) (labels : List PyData) (at_ : Int) (known : List PyData) (own : Int) (t : PEnv) : PEnv := some (.bor g) :: some (.val (.int style)) :: some (.val (.bool false)) :: some (.val (.list labels)) :: some (.val (.int at_)) :: some (.val (.list known)) :: some (.val (.int own)) :: t
theorem b1 (G : Gen n g) (hn : n < 2 ^ 46) : ∃ S g', Gen (n + 63) g' ∧ (∀ s ∈ S, Step s) ∧ S.length ≤ 3 ∧ db1 (bv g style labels at_ known own [none, none, none, none]) = .ok .nx (bv g' style labels at_ known own [some (.val (.list S)), none, none, none]) := by
  obtain ⟨k, g0, e0, G0, k0, k1⟩ := rnd G (by omega) (b := 4) (by decide) (by decide)
  have i0 : intsD 0 (0 : Int).toNat = [] := rfl
  have i1 : intsD 0 (1 : Int).toNat = [.int 0] := rfl
  have i2 : intsD 0 (2 : Int).toNat = [.int 0, .int 1] := rfl
  have i3 : intsD 0 (3 : Int).toNat = [.int 0, .int 1, .int 2] := rfl
  obtain ⟨a, g1, e1, G1, m1⟩ := step_drawn G0 (by omega)
  obtain ⟨b, g2, e2, G2, m2⟩ := step_drawn G1 (by omega)
  obtain ⟨c, g3, e3, G3, m3⟩ := step_drawn G2 (by omega)
  unfold db1 bv
  have hk : k = 0 ∨ k = 1 ∨ k = 2 ∨ k = 3 := by omega
  rcases hk with rfl | rfl | rfl | rfl
  · simp_arith! [e0, i0]
    exact ⟨[], _, G0.up (by omega), (by intro s h; cases h), (by simp), rfl⟩
  · simp_arith! [e0, i1, e1]
    exact ⟨[a], _, G1.up (by omega), by simpa using m1, by simp, rfl⟩
  · simp_arith! [e0, i2, e1, e2]
    exact ⟨[a, b], _, G2.up (by omega), by simpa using ⟨m1, m2⟩, by simp, rfl⟩
  · simp_arith! [e0, i3, e1, e2, e3]
    exact ⟨[a, b, c], _, G3.up (by omega), by simpa using ⟨m1, m2, m3⟩, by simp, rfl⟩
/-- what a drawn block's end is: no loop -/
inductive Fin (labels known : List PyData) : PyData → Prop
  | ret {a : PyData} : a ∈ texts → Fin labels known (.tuple [.str "return", a])
  | rais {a : PyData} : a ∈ texts → Fin labels known (.tuple [.str "raise", a])
  | go {l : PyData} : l ∈ labels → Fin labels known (.tuple [.str "go", l])
  | test {a l m : PyData} : a ∈ texts → l ∈ labels → m ∈ labels → Fin labels known (.tuple [.str "test", a, l, m])
  | call {x f l : PyData} {ps vs : List PyData} : x ∈ texts → .tuple [f, .list ps] ∈ known → vs.length = ps.length → (∀ a ∈ vs, a ∈ texts) → l ∈ labels → Fin labels known (.tuple [.str "call", x, f, .tuple vs, l])
  | try_ {x y f l m : PyData} {ps vs : List PyData} : x ∈ texts → y ∈ texts → .tuple [f, .list ps] ∈ known → vs.length = ps.length → (∀ a ∈ vs, a ∈ texts) → l ∈ labels → m ∈ labels → Fin labels known (.tuple [.str "try", x, f, .tuple vs, l, y, m])
/-- what a drawn block is -/
def Block (labels known : List PyData) (l b : PyData) : Prop := ∃ S e, b = .tuple [l, .list S, e] ∧ (∀ s ∈ S, Step s) ∧ S.length ≤ 4 ∧ Fin labels known e
theorem atNeg {xs : List PyData} {v : PyData} (h : xs[xs.length - 1]? = some v) : L2.atI xs (-1) = some v := by
  have hl : xs.length - 1 < xs.length := (List.getElem?_eq_some_iff.mp h).1
  unfold L2.atI L2.ixN
  rw [if_neg (by decide), if_pos (by omega)]
  show xs[((-1 : Int) + (xs.length : Int)).toNat]? = _
  rw [show ((-1 : Int) + (xs.length : Int)).toNat = xs.length - 1 by omega]
  exact h
theorem block_drawn (G : Gen n g) (hn : n < 2 ^ 43) (hs : style = 0 ∨ style = 1 ∨ style = 2) (hl : ∀ l ∈ labels, l ∈ texts) (lL : labels.length ≤ 8) (h0 : 0 ≤ at_) {l : PyData} (h1 : labels[at_.toNat]? = some l) (hk : ∀ e ∈ known, Sig e) (lk : known.length ≤ 8) :
    ∃ v g', f__law_drawn_block [.bor g, .d (.int style), .d (.bool false), .d (.list labels), .d (.int at_), .d (.list known), .d (.int own)] = .ret (.d v) [g'] ∧ Gen (n + 120) g' ∧ Block labels known l v := by
  have ha : at_ < labels.length := by
    have := (List.getElem?_eq_some_iff.mp h1).1
    omega
  have hml : l ∈ labels := List.mem_of_getElem? h1
  have al := at_ok (n := at_) h0 h1
  obtain ⟨S, g1, G1, mS, lS, e1⟩ := b1 (style := style) (labels := labels) (at_ := at_) (known := known) (own := own) G (by omega)
  have start : f__law_drawn_block [.bor g, .d (.int style), .d (.bool false), .d (.list labels), .d (.int at_), .d (.list known), .d (.int own)] = endF [.bor g, .d (.int style), .d (.bool false), .d (.list labels), .d (.int at_), .d (.list known), .d (.int own)] (m__law_drawn_block (bv g style labels at_ known own [none, none, none, none])) := by
    unfold f__law_drawn_block bv
    simp_arith []
  have cS : (S.length + 1 ≤ 1000000) = True := eq_true (by omega)
  have qq : ∀ a b : Int, eqD (.int a) (.int b) = some (.d (.bool (a == b))) := fun _ _ => rfl
  rw [start, block_split, z_seq, e1, z_then_nx]
  by_cases c : style = 1 ∧ at_ = 0 ∧ 0 < own ∧ 1 < labels.length
  · obtain ⟨rfl, rfl, c3, c4⟩ := c
    obtain ⟨a, g2, e2, G2, m2⟩ := small G1 (by omega)
    obtain ⟨p, hp⟩ : ∃ p, labels[1]? = some p := ⟨_, List.getElem?_eq_getElem c4⟩
    obtain ⟨r, hr⟩ : ∃ r, labels[labels.length - 1]? = some r := ⟨_, List.getElem?_eq_getElem (by omega)⟩
    have a1 := at_ok (xs := labels) (n := 1) (by decide) hp
    have a2 := atNeg hr
    have c4' : ((1 : Int) < (labels.length : Int)) = True := eq_true (by omega)
    unfold db2 bv
    simp_all_arith [qq, Int.reduceBEq, c3, c4', e2, al, a1, a2, z_addL, cS]
    exact ⟨_, _, rfl, G2.up (by omega), _, _, rfl, by
      intro s hs
      rcases List.mem_append.mp hs with h | h
      · exact mS s h
      · simp at h; subst h; exact .read (smalls_texts _ m2), by simp; omega, .test (smalls_texts _ m2) (List.mem_of_getElem? hp) (List.mem_of_getElem? hr)⟩
  · have e2 : db2 (bv g1 style labels at_ known own [some (.val (.list S)), none, none, none]) = .ok .nx (bv g1 style labels at_ known own [some (.val (.list S)), none, none, none]) := by
      unfold db2 bv
      by_cases c1 : style = 1
      · subst c1
        by_cases c2 : at_ = 0
        · subst c2
          by_cases c3 : 0 < own
          · have c4 : ((1 : Int) < (labels.length : Int)) = False := eq_false (fun h => c ⟨rfl, rfl, c3, by omega⟩)
            simp_all_arith [qq, Int.reduceBEq, c3, c4]
          · simp_all_arith [qq, Int.reduceBEq, c3]
        · have : (at_ == 0) = false := beq_false_of_ne c2
          simp_all_arith [qq, Int.reduceBEq, this]
      · have : (style == 1) = false := beq_false_of_ne c1
        simp_all_arith [qq, this]
    obtain ⟨e, g2, e3, G2, m2⟩ := end_drawn (style := style) (own := own) G1 (by omega) hs hl lL h0 ha hk lk
    rw [z_seq, e2, z_then_nx]
    have k1 : eqD (.str "return") (.str "loop") = some (.d (.bool false)) := by kernel_rfl
    have k2 : eqD (.str "raise") (.str "loop") = some (.d (.bool false)) := by kernel_rfl
    have k3 : eqD (.str "go") (.str "loop") = some (.d (.bool false)) := by kernel_rfl
    have k4 : eqD (.str "test") (.str "loop") = some (.d (.bool false)) := by kernel_rfl
    have k5 : eqD (.str "call") (.str "loop") = some (.d (.bool false)) := by kernel_rfl
    have k6 : eqD (.str "try") (.str "loop") = some (.d (.bool false)) := by kernel_rfl
    have k7 : eqD (.str "loop") (.str "loop") = some (.d (.bool true)) := by kernel_rfl
    have j1 : eqD (.str "return") (.str "test") = some (.d (.bool false)) := by kernel_rfl
    have j2 : eqD (.str "raise") (.str "test") = some (.d (.bool false)) := by kernel_rfl
    have j3 : eqD (.str "go") (.str "test") = some (.d (.bool false)) := by kernel_rfl
    have j4 : eqD (.str "test") (.str "test") = some (.d (.bool true)) := by kernel_rfl
    have j5 : eqD (.str "call") (.str "test") = some (.d (.bool false)) := by kernel_rfl
    have j6 : eqD (.str "try") (.str "test") = some (.d (.bool false)) := by kernel_rfl
    unfold db3 db4 db5 bv
    have lS' : S.length ≤ 4 := by omega
    cases m2 with
    | ret ha =>
      simp_all_arith [e3, k1, j1, al]
      exact ⟨_, _, rfl, G2.up (by omega), _, _, rfl, mS, lS', .ret ha⟩
    | rais ha =>
      simp_all_arith [e3, k2, j2, al]
      exact ⟨_, _, rfl, G2.up (by omega), _, _, rfl, mS, lS', .rais ha⟩
    | go ha =>
      simp_all_arith [e3, k3, j3, al]
      exact ⟨_, _, rfl, G2.up (by omega), _, _, rfl, mS, lS', .go ha⟩
    | test h1 h2 h3 =>
      simp_all_arith [e3, k4, j4, al]
      exact ⟨_, _, rfl, G2.up (by omega), _, _, rfl, mS, lS', .test h1 h2 h3⟩
    | loop h1 h2 h3 =>
      simp_all_arith [e3, k7, al, z_addL, z_addT, cS]
      exact ⟨_, _, rfl, G2.up (by omega), _, _, rfl, by
        intro s hs
        rcases List.mem_append.mp hs with h | h
        · exact mS s h
        · simp at h; subst h; exact .read h1, by simp; omega, .test h1 h2 h3⟩
    | call h1 h2 h3 h4 h5 =>
      simp_all_arith [e3, k5, j5, al]
      exact ⟨_, _, rfl, G2.up (by omega), _, _, rfl, mS, lS', .call h1 h2 h3 h4 h5⟩
    | try_ h1 h2 h3 h4 h5 h6 h7 =>
      simp_all_arith [e3, k6, j6, al]
      exact ⟨_, _, rfl, G2.up (by omega), _, _, rfl, mS, lS', .try_ h1 h2 h3 h4 h5 h6 h7⟩
end
end Pi.K03


set_option linter.all false
set_option maxRecDepth 100000
set_option maxHeartbeats 1600000
set_option autoImplicit false
namespace Pi.K03
open PySem
def dp1 : PEnv → R Flow := par3S 4 false (callE f__law_random (consA (slotE 0) (consA (cstE (.int 3)) (nilA)))) 5 true (lstE (nilA)) 6 true (lstE (nilA))
def dp2 : PEnv → R Flow := asgS 7 false (iteE (boolT (binE gtD (callE f__law_random (consA (slotE 0) (consA (cstE (.int 8)) (nilA)))) (cstE (.int 0)))) (slotE 1) (binE addD (cstE (.int 1)) (callE f__law_random (consA (slotE 0) (consA (slotE 1) (nilA))))))
def dp3 : PEnv → R Flow := forS (seqI (slE (callE f__law_drawn_order (consA (slotE 0) (consA (lstE (consA (cstE (.str "main")) (consA (cstE (.str "f")) (consA (cstE (.str "g2")) (consA (cstE (.str "helper")) (nilA)))))) (nilA)))) (none) (some (slotE 7)))) (nameG 8) (exprS (appE 5 (consA (tupE (consA (slotE 8) (consA (slE (callE f__law_drawn_order (consA (slotE 0) (consA (lstE (consA (cstE (.str "a")) (consA (cstE (.str "n")) (consA (cstE (.str "x1")) (consA (cstE (.str "total")) (nilA)))))) (nilA)))) (none) (some (callE f__law_random (consA (slotE 0) (consA (cstE (.int 3)) (nilA)))))) (nilA)))) (nilA))))
def dp4 : PEnv → R Flow := forS (range1I (bltE lenD (consA (frzE 5) (nilA)))) (nameG 9) (seqS (asgS 10 false (callE f__law_drawn_order (consA (slotE 0) (consA (lstE (consA (cstE (.str "b0")) (consA (cstE (.str "loop")) (consA (cstE (.str "z")) (consA (cstE (.str "out")) (consA (cstE (.str "in7")) (consA (cstE (.str "x1")) (consA (cstE (.str "body")) (consA (cstE (.str "w2")) (nilA)))))))))) (nilA))))) (seqS (asgS 11 false (binE ixD2 (lstE (consA (cstE (.int 0)) (consA (cstE (.int 0)) (consA (cstE (.int 0)) (consA (cstE (.int 1)) (consA (cstE (.int 1)) (consA (cstE (.int 1)) (consA (cstE (.int 1)) (consA (cstE (.int 2)) (consA (cstE (.int 2)) (consA (cstE (.int 2)) (consA (cstE (.int 3)) (consA (cstE (.int 9)) (nilA)))))))))))))) (callE f__law_random (consA (slotE 0) (consA (cstE (.int 12)) (nilA)))))) (seqS (asgS 10 false (slE (slotE 10) (none) (some (bltE minD (consA (slotE 2) (consA (bltE maxD (consA (iteE (boolT (binE eqD (slotE 11) (cstE (.int 9)))) (cstE (.int 1)) (cstE (.int 2))) (consA (binE subD (slotE 2) (slotE 11)) (nilA)))) (nilA))))))) (seqS (asgS 12 false (lcE [13] (range1I (bltE lenD (consA (slotE 10) (nilA)))) (nameG 13) (yesT) (callE f__law_drawn_block (consA (slotE 0) (consA (slotE 4) (consA (slotE 3) (consA (slotE 10) (consA (slotE 13) (consA (frzE 5) (consA (slotE 9) (nilA))))))))))) (exprS (appE 6 (consA (tupE (consA (binE ixD2 (binE ixD2 (frzE 5) (slotE 9)) (cstE (.int 0))) (consA (bltE listD (consA (binE ixD2 (binE ixD2 (frzE 5) (slotE 9)) (cstE (.int 1))) (nilA))) (consA (slotE 12) (nilA))))) (nilA))))))))
def dp5 : PEnv → R Flow := retS (tupE (consA (cstE (.str "program")) (consA (frzE 6) (nilA))))
theorem prog_split : m__law_drawn_program = seqS dp1 (seqS dp2 (seqS dp3 (seqS dp4 dp5))) := rfl
def dn : PEnv → R Flow := exprS (appE 5 (consA (tupE (consA (slotE 8) (consA (slE (callE f__law_drawn_order (consA (slotE 0) (consA (lstE (consA (cstE (.str "a")) (consA (cstE (.str "n")) (consA (cstE (.str "x1")) (consA (cstE (.str "total")) (nilA)))))) (nilA)))) (none) (some (callE f__law_random (consA (slotE 0) (consA (cstE (.int 3)) (nilA)))))) (nilA)))) (nilA)))
def dnI : PEnv → R (List D) := seqI (slE (callE f__law_drawn_order (consA (slotE 0) (consA (lstE (consA (cstE (.str "main")) (consA (cstE (.str "f")) (consA (cstE (.str "g2")) (consA (cstE (.str "helper")) (nilA)))))) (nilA)))) (none) (some (slotE 7)))
theorem dp3_eq : dp3 = forS dnI (nameG 8) dn := rfl
def df : PEnv → R Flow := seqS (asgS 10 false (callE f__law_drawn_order (consA (slotE 0) (consA (lstE (consA (cstE (.str "b0")) (consA (cstE (.str "loop")) (consA (cstE (.str "z")) (consA (cstE (.str "out")) (consA (cstE (.str "in7")) (consA (cstE (.str "x1")) (consA (cstE (.str "body")) (consA (cstE (.str "w2")) (nilA)))))))))) (nilA))))) (seqS (asgS 11 false (binE ixD2 (lstE (consA (cstE (.int 0)) (consA (cstE (.int 0)) (consA (cstE (.int 0)) (consA (cstE (.int 1)) (consA (cstE (.int 1)) (consA (cstE (.int 1)) (consA (cstE (.int 1)) (consA (cstE (.int 2)) (consA (cstE (.int 2)) (consA (cstE (.int 2)) (consA (cstE (.int 3)) (consA (cstE (.int 9)) (nilA)))))))))))))) (callE f__law_random (consA (slotE 0) (consA (cstE (.int 12)) (nilA)))))) (seqS (asgS 10 false (slE (slotE 10) (none) (some (bltE minD (consA (slotE 2) (consA (bltE maxD (consA (iteE (boolT (binE eqD (slotE 11) (cstE (.int 9)))) (cstE (.int 1)) (cstE (.int 2))) (consA (binE subD (slotE 2) (slotE 11)) (nilA)))) (nilA))))))) (seqS (asgS 12 false (lcE [13] (range1I (bltE lenD (consA (slotE 10) (nilA)))) (nameG 13) (yesT) (callE f__law_drawn_block (consA (slotE 0) (consA (slotE 4) (consA (slotE 3) (consA (slotE 10) (consA (slotE 13) (consA (frzE 5) (consA (slotE 9) (nilA))))))))))) (exprS (appE 6 (consA (tupE (consA (binE ixD2 (binE ixD2 (frzE 5) (slotE 9)) (cstE (.int 0))) (consA (bltE listD (consA (binE ixD2 (binE ixD2 (frzE 5) (slotE 9)) (cstE (.int 1))) (nilA))) (consA (slotE 12) (nilA))))) (nilA)))))))
def dfI : PEnv → R (List D) := range1I (bltE lenD (consA (frzE 5) (nilA)))
theorem dp4_eq : dp4 = forS dfI (nameG 9) df := rfl
def df1 : PEnv → R Flow := asgS 10 false (callE f__law_drawn_order (consA (slotE 0) (consA (lstE (consA (cstE (.str "b0")) (consA (cstE (.str "loop")) (consA (cstE (.str "z")) (consA (cstE (.str "out")) (consA (cstE (.str "in7")) (consA (cstE (.str "x1")) (consA (cstE (.str "body")) (consA (cstE (.str "w2")) (nilA)))))))))) (nilA))))
def df2 : PEnv → R Flow := asgS 11 false (binE ixD2 (lstE (consA (cstE (.int 0)) (consA (cstE (.int 0)) (consA (cstE (.int 0)) (consA (cstE (.int 1)) (consA (cstE (.int 1)) (consA (cstE (.int 1)) (consA (cstE (.int 1)) (consA (cstE (.int 2)) (consA (cstE (.int 2)) (consA (cstE (.int 2)) (consA (cstE (.int 3)) (consA (cstE (.int 9)) (nilA)))))))))))))) (callE f__law_random (consA (slotE 0) (consA (cstE (.int 12)) (nilA)))))
def df3 : PEnv → R Flow := asgS 10 false (slE (slotE 10) (none) (some (bltE minD (consA (slotE 2) (consA (bltE maxD (consA (iteE (boolT (binE eqD (slotE 11) (cstE (.int 9)))) (cstE (.int 1)) (cstE (.int 2))) (consA (binE subD (slotE 2) (slotE 11)) (nilA)))) (nilA))))))
def df4 : PEnv → R Flow := asgS 12 false (lcE [13] (range1I (bltE lenD (consA (slotE 10) (nilA)))) (nameG 13) (yesT) (callE f__law_drawn_block (consA (slotE 0) (consA (slotE 4) (consA (slotE 3) (consA (slotE 10) (consA (slotE 13) (consA (frzE 5) (consA (slotE 9) (nilA))))))))))
def df5 : PEnv → R Flow := exprS (appE 6 (consA (tupE (consA (binE ixD2 (binE ixD2 (frzE 5) (slotE 9)) (cstE (.int 0))) (consA (bltE listD (consA (binE ixD2 (binE ixD2 (frzE 5) (slotE 9)) (cstE (.int 1))) (nilA))) (consA (slotE 12) (nilA))))) (nilA)))
theorem df_split : df = seqS df1 (seqS df2 (seqS df3 (seqS df4 df5))) := rfl
section
variable {n : Int} {g K F : List PyData} {style many : Int} {o8 o9 : Option Slot}
abbrev pv (g : List PyData) (style : Int) (K F : List PyData) (many : Int) (o8 : Option Slot) : PEnv := [some (.bor g), some (.val (.int 4)), some (.val (.int 6)), some (.val (.bool false)), some (.val (.int style)), some (.lst K), some (.lst F), some (.val (.int many)), o8, none, none, none, none, none]
def Free (o : Option Slot) : Prop := o = none ∨ ∃ x, o = some (.val x)
theorem nodup_params : params.Nodup := by
  simp only [params, List.nodup_cons, List.mem_cons, List.not_mem_nil, or_false, PyData.str.injEq, List.nodup_nil]
  decide +kernel
theorem turn1 (G : Gen n g) (hn : n < 2 ^ 42) (lK : K.length < 1000) (h8 : Free o8) (nm : PyData) : ∃ ps g', Gen (n + 15) g' ∧ (∀ p ∈ ps, p ∈ params) ∧ ps.length ≤ 2 ∧ ps.Nodup ∧
    turnS (nameG 8) dn nm (pv g style K F many o8) = .ok .nx (pv g' style (K ++ [.tuple [nm, .list ps]]) F many (some (.val nm))) := by
  have l4 : params.length = 4 := rfl
  obtain ⟨p, g1, e1, hp, G1⟩ := order G (xs := params) (fun x h => texts_T _ (params_texts _ h)) (by decide) (by omega)
  rw [l4] at G1
  obtain ⟨k, g2, e2, G2, k0, k1⟩ := rnd G1 (by omega) (b := 3) (by decide) (by decide)
  have fl : (K.length < big) = True := eq_true (by show _ < 1000000; omega)
  unfold params at e1
  refine ⟨cutD p none (some k), g2, G2.up (by omega), fun x h => hp.mem_iff.mp (cut_mem h), ?_, ?_, ?_⟩
  · rw [cut_take k0, List.length_take]; omega
  · rw [cut_take k0]
    exact (List.take_sublist _ _).nodup (hp.symm.nodup nodup_params)
  · unfold dn pv
    rcases h8 with rfl | ⟨x, rfl⟩
    · simp_all_arith [e1, e2, fl]
    · simp_all_arith [e1, e2, fl]
inductive Names : List PyData → List PyData → Prop
  | nil : Names [] []
  | cons {nm : PyData} {ps nms ks : List PyData} : (∀ p ∈ ps, p ∈ params) → ps.length ≤ 2 → ps.Nodup → Names nms ks → Names (nm :: nms) (.tuple [nm, .list ps] :: ks)
theorem loop1 : ∀ (nms : List PyData) (n : Int) (g K : List PyData) (o8 : Option Slot), Gen n g → n + 15 * nms.length < 2 ^ 42 → K.length + nms.length < 1000 → Free o8 → ∃ K' g' o, Gen (n + 15 * nms.length) g' ∧ Free o ∧ Names nms K' ∧
    forGo (turnS (nameG 8) dn) nms (pv g style K F many o8) = .ok .nx (pv g' style (K ++ K') F many o)
  | [], n, g, K, o8, G, hn, lK, h8 => ⟨[], g, o8, by simpa using G, h8, .nil, by rw [List.append_nil]; rfl⟩
  | nm :: nms, n, g, K, o8, G, hn, lK, h8 => by
    have el : (nm :: nms).length = nms.length + 1 := rfl
    obtain ⟨ps, g1, G1, h1, h2, h3, e1⟩ := turn1 (K := K) (style := style) (F := F) (many := many) G (by omega) (by omega) h8 nm
    have lk1 : (K ++ [PyData.tuple [nm, .list ps]]).length = K.length + 1 := by simp
    obtain ⟨K', g2, o, G2, ho, hN, e2⟩ := loop1 nms (n + 15) g1 (K ++ [.tuple [nm, .list ps]]) (some (.val nm)) G1 (by omega) (by rw [lk1]; omega) (.inr ⟨_, rfl⟩)
    refine ⟨_ :: K', g2, o, G2.up (by omega), ho, .cons h1 h2 h3 hN, ?_⟩
    rw [z_forGo, e1, z_forN_nx, e2, List.append_assoc]
    rfl
theorem asgO_free {i : Nat} {b : Bool} {r : Val} {env : PEnv} {o : Option Slot} (h : Free o) : asgO i b r env (some o) = asgW i b env r := by
  rcases h with rfl | ⟨x, rfl⟩ <;> rfl
theorem nameO_free {i : Nat} {x : PyData} {env : PEnv} {o : Option Slot} (h : Free o) : nameO i x env (some o) = some (env.set i (some (.val x))) := by
  rcases h with rfl | ⟨x, rfl⟩ <;> rfl
/-- rows of blocks, by their labels -/
inductive Rows (labels ks : List PyData) : List PyData → List PyData → Prop
  | nil : Rows labels ks [] []
  | cons {l b : PyData} {ls bs : List PyData} : Block labels ks l b → Rows labels ks ls bs → Rows labels ks (l :: ls) (b :: bs)
abbrev rowE : PEnv → R Val := callE f__law_drawn_block (consA (slotE 0) (consA (slotE 4) (consA (slotE 3) (consA (slotE 10) (consA (slotE 13) (consA (frzE 5) (consA (slotE 9) (nilA))))))))
abbrev qv (g : List PyData) (style : Int) (K F : List PyData) (many : Int) (o8 : Option Slot) (own : Int) (o10 o11 o12 o13 : Option Slot) : PEnv := [some (.bor g), some (.val (.int 4)), some (.val (.int 6)), some (.val (.bool false)), some (.val (.int style)), some (.val (.list K)), some (.lst F), some (.val (.int many)), o8, some (.val (.int own)), o10, o11, o12, o13]
theorem rows_drawn {labels : List PyData} {own : Int} {o11 o12 : Option Slot} (hs : style = 0 ∨ style = 1 ∨ style = 2) (hl : ∀ l ∈ labels, l ∈ texts) (lL : labels.length ≤ 8) (hk : ∀ e ∈ K, Sig e) (lk : K.length ≤ 8) :
    ∀ (m j : Nat) (n : Int) (g acc : List PyData), j + m = labels.length → acc.length ≤ j → Gen n g → n + 120 * m < 2 ^ 42 → ∃ bs g', Gen (n + 120 * m) g' ∧ Rows labels K (labels.drop j) bs ∧
      lcGo [13] (nameG 13) yesT rowE ((List.range' j m).map fun (i : Nat) => .int (0 + (i : Int))) (qv g style K F many o8 own (some (.val (.list labels))) o11 o12 none) acc = .ok (acc ++ bs) (qv g' style K F many o8 own (some (.val (.list labels))) o11 o12 none)
  | 0, j, n, g, acc, hj, _, G, _ => ⟨[], g, by simpa using G, by rw [List.drop_eq_nil_of_le (by omega)]; exact .nil, by rw [List.append_nil]; rfl⟩
  | m + 1, j, n, g, acc, hj, hacc, G, hn => by
    have hjl : j < labels.length := by omega
    obtain ⟨v, g1, e1, G1, hb⟩ := block_drawn (style := style) (own := own) (at_ := (j : Int)) G (by omega) hs hl lL (by omega) (l := labels[j]) (by simp [List.getElem?_eq_getElem hjl]) hk lk
    obtain ⟨bs, g2, G2, hr, e2⟩ := rows_drawn (o11 := o11) (o12 := o12) hs hl lL hk lk m (j + 1) (n + 120) g1 (acc ++ [v]) (by omega) (by rw [List.length_append]; simp; omega) G1 (by omega)
    refine ⟨v :: bs, g2, G2.up (by omega), ?_, ?_⟩
    · rw [List.drop_eq_getElem_cons hjl]
      exact .cons hb hr
    · have fl : (acc.length < 1000000) = True := eq_true (by omega)
      rw [List.range'_succ, List.map_cons]
      unfold qv
      simp_all_arith [Int.zero_add, e1, fl]
      rw [show ∀ z, acc ++ v :: bs = z → (acc ++ [v]) ++ bs = z from fun z h => by rw [← h]; simp] at e2
      · simpa only [Int.zero_add, qv] using e2
      · rfl
end
end Pi.K03


set_option linter.all false
set_option maxRecDepth 100000
set_option maxHeartbeats 1600000
set_option autoImplicit false
namespace Pi.K03
open PySem
section
variable {n : Int} {g K F : List PyData} {style many : Int} {o8 o9 o10 o11 o12 : Option Slot}
theorem rows_all {labels : List PyData} {own : Int} (hs : style = 0 ∨ style = 1 ∨ style = 2) (hl : ∀ l ∈ labels, l ∈ texts) (lL : labels.length ≤ 8) (hk : ∀ e ∈ K, Sig e) (lk : K.length ≤ 8) (G : Gen n g) (hn : n < 2 ^ 41) : ∃ bs g', Gen (n + 960) g' ∧ Rows labels K labels bs ∧
    lcE [13] (range1I (bltE lenD (consA (slotE 10) nilA))) (nameG 13) yesT rowE (qv g style K F many o8 own (some (.val (.list labels))) o11 o12 none) = .ok (.new bs) (qv g' style K F many o8 own (some (.val (.list labels))) o11 o12 none) := by
  obtain ⟨bs, g1, G1, hr, e⟩ := rows_drawn (F := F) (many := many) (o8 := o8) (own := own) (o11 := o11) (o12 := o12) hs hl lL hk lk labels.length 0 n g [] (by omega) (by simp) G (by omega)
  refine ⟨bs, g1, G1.up (by omega), hr, ?_⟩
  have c : (-4611686018427387904 ≤ (labels.length : Int) ∧ (labels.length : Int) < 4611686018427387904) = True := eq_true (by omega)
  have i1 : intsD 0 ((labels.length : Int)).toNat = (List.range' 0 labels.length).map fun (i : Nat) => PyData.int (0 + (i : Int)) := by
    unfold intsD
    rw [Int.toNat_natCast, List.range_eq_range']
  unfold qv at e ⊢
  rw [z_lc]
  simp_arith [c, i1, z_lc_k, z_all, z_all_nil, z_plain, z_plain_n, Bool.and_self, z_wipe, z_wipe_nil]
  rw [e]
  simp_arith [z_lcFin, z_rest, z_rest_nil, z_restO]
def labels8 : List PyData := [.str "b0", .str "loop", .str "z", .str "out", .str "in7", .str "x1", .str "body", .str "w2"]
theorem nodup_labels : labels8.Nodup := by
  simp only [labels8, List.nodup_cons, List.mem_cons, List.not_mem_nil, or_false, PyData.str.injEq, List.nodup_nil]
  decide +kernel
theorem labels_texts : ∀ x ∈ labels8, x ∈ texts := by
  intro x h
  simp only [labels8, List.mem_cons, List.not_mem_nil, or_false] at h
  rcases h with rfl | rfl | rfl | rfl | rfl | rfl | rfl | rfl <;> simp [texts]
theorem z_maxI {a b : Int} : maxD [.int a, .int b] = some (.d (.int (if a < b then b else a))) := rfl
theorem z_minI {a b : Int} : minD [.int a, .int b] = some (.d (.int (if b < a then b else a))) := rfl
abbrev pw (g : List PyData) (style : Int) (K F : List PyData) (many : Int) (o8 o9 o10 o11 o12 : Option Slot) : PEnv := [some (.bor g), some (.val (.int 4)), some (.val (.int 6)), some (.val (.bool false)), some (.val (.int style)), some (.val (.list K)), some (.lst F), some (.val (.int many)), o8, o9, o10, o11, o12, none]
/-- what a drawn function is -/
def Fun (K : List PyData) (k f : PyData) : Prop := ∃ nm ps labels bs, k = .tuple [nm, .list ps] ∧ f = .tuple [nm, .list ps, .list bs] ∧ labels.Nodup ∧ labels ≠ [] ∧ (∀ l ∈ labels, l ∈ texts) ∧ labels.length ≤ 8 ∧ Rows labels K labels bs
theorem turn2 (hs : style = 0 ∨ style = 1 ∨ style = 2) (hk : ∀ e ∈ K, Sig e) (lk : K.length ≤ 8) (lF : F.length ≤ 100) (G : Gen n g) (hn : n < 2 ^ 40) (h9 : Free o9) (h10 : Free o10) (h11 : Free o11) (h12 : Free o12) {i : Nat} {k : PyData} (hi : K[i]? = some k) :
    ∃ f g' p10 p11 p12, Gen (n + 1000) g' ∧ Fun K k f ∧ Free p10 ∧ Free p11 ∧ Free p12 ∧ turnS (nameG 9) df (.int (i : Int)) (pw g style K F many o8 o9 o10 o11 o12) = .ok .nx (pw g' style K (F ++ [f]) many o8 (some (.val (.int (i : Int)))) p10 p11 p12) := by
  have l8 : labels8.length = 8 := rfl
  obtain ⟨p, g1, e1, hp, G1⟩ := order G (xs := labels8) (fun x h => texts_T _ (labels_texts _ h)) (by decide) (by omega)
  rw [l8] at G1
  obtain ⟨q, g2, e2, G2, q0, q1⟩ := rnd G1 (by omega) (b := 12) (by decide) (by decide)
  obtain ⟨less, hless, ea⟩ : ∃ less : Int, (less = 0 ∨ less = 1 ∨ less = 2 ∨ less = 3 ∨ less = 9) ∧ L2.atI [PyData.int 0, .int 0, .int 0, .int 1, .int 1, .int 1, .int 1, .int 2, .int 2, .int 2, .int 3, .int 9] q = some (.int less) := by
    have hq : q = 0 ∨ q = 1 ∨ q = 2 ∨ q = 3 ∨ q = 4 ∨ q = 5 ∨ q = 6 ∨ q = 7 ∨ q = 8 ∨ q = 9 ∨ q = 10 ∨ q = 11 := by omega
    rcases hq with rfl | rfl | rfl | rfl | rfl | rfl | rfl | rfl | rfl | rfl | rfl | rfl
    · exact ⟨0, by simp, at_ok (by decide) rfl⟩
    · exact ⟨0, by simp, at_ok (by decide) rfl⟩
    · exact ⟨0, by simp, at_ok (by decide) rfl⟩
    · exact ⟨1, by simp, at_ok (by decide) rfl⟩
    · exact ⟨1, by simp, at_ok (by decide) rfl⟩
    · exact ⟨1, by simp, at_ok (by decide) rfl⟩
    · exact ⟨1, by simp, at_ok (by decide) rfl⟩
    · exact ⟨2, by simp, at_ok (by decide) rfl⟩
    · exact ⟨2, by simp, at_ok (by decide) rfl⟩
    · exact ⟨2, by simp, at_ok (by decide) rfl⟩
    · exact ⟨3, by simp, at_ok (by decide) rfl⟩
    · exact ⟨9, by simp, at_ok (by decide) rfl⟩
  have hk1 := hk k (List.mem_of_getElem? hi)
  obtain ⟨nm, ps, rfl, hnm, hps, hpl⟩ := hk1
  have ai := at_ok (xs := K) (n := (i : Int)) (by omega) (by simpa using hi)
  have pl : p.length = 8 := hp.length_eq
  have lab : ∀ t : Int, 1 ≤ t → t ≤ 6 → (cutD p none (some t)).Nodup ∧ cutD p none (some t) ≠ [] ∧ (∀ l ∈ cutD p none (some t), l ∈ texts) ∧ (cutD p none (some t)).length ≤ 8 := by
    intro t t0 t1
    refine ⟨?_, ?_, fun l h => labels_texts _ (hp.mem_iff.mp (cut_mem h)), by have := cut_len p none (some t); omega⟩
    · rw [cut_take (by omega)]
      exact (List.take_sublist _ _).nodup (hp.symm.nodup nodup_labels)
    · rw [cut_take (by omega)]
      intro z
      have := congrArg List.length z
      rw [List.length_take, pl] at this
      have h2 : min t.toNat 8 = 0 := this
      omega
  have qq : ∀ a b : Int, eqD (.int a) (.int b) = some (.d (.bool (a == b))) := fun _ _ => rfl
  unfold labels8 at e1
  obtain ⟨t, t0, t1, e3⟩ : ∃ t : Int, 1 ≤ t ∧ t ≤ 6 ∧ ∀ r : PEnv → R Flow, seqS df1 (seqS df2 (seqS df3 r)) (qv g style K F many o8 (i : Int) o10 o11 o12 none) = r (qv g2 style K F many o8 (i : Int) (some (.val (.list (cutD p none (some t))))) (some (.val (.int less))) o12 none) := by
    rcases hless with rfl | rfl | rfl | rfl | rfl
    · exact ⟨6, by decide, by decide, fun r => by unfold df1 df2 df3 qv; simp_all_arith [e1, e2, ea, asgO_free h10, asgO_free h11, z_maxI, z_minI, qq, Int.reduceBEq]⟩
    · exact ⟨5, by decide, by decide, fun r => by unfold df1 df2 df3 qv; simp_all_arith [e1, e2, ea, asgO_free h10, asgO_free h11, z_maxI, z_minI, qq, Int.reduceBEq]⟩
    · exact ⟨4, by decide, by decide, fun r => by unfold df1 df2 df3 qv; simp_all_arith [e1, e2, ea, asgO_free h10, asgO_free h11, z_maxI, z_minI, qq, Int.reduceBEq]⟩
    · exact ⟨3, by decide, by decide, fun r => by unfold df1 df2 df3 qv; simp_all_arith [e1, e2, ea, asgO_free h10, asgO_free h11, z_maxI, z_minI, qq, Int.reduceBEq]⟩
    · exact ⟨1, by decide, by decide, fun r => by unfold df1 df2 df3 qv; simp_all_arith [e1, e2, ea, asgO_free h10, asgO_free h11, z_maxI, z_minI, qq, Int.reduceBEq]⟩
  obtain ⟨lb1, lb2, lb3, lb4⟩ := lab t t0 t1
  generalize cutD p none (some t) = labels at lb1 lb2 lb3 lb4 e3
  obtain ⟨bs, g3, G3, hr, e4⟩ := rows_all (F := F) (many := many) (o8 := o8) (own := (i : Int)) (o11 := some (.val (.int less))) (o12 := o12) hs lb3 lb4 hk lk G2 (by omega)
  refine ⟨.tuple [nm, .list ps, .list bs], g3, some (.val (.list labels)), some (.val (.int less)), some (.val (.list bs)), G3.up (by omega), ⟨nm, ps, labels, bs, rfl, rfl, lb1, lb2, lb3, lb4, hr⟩, .inr ⟨_, rfl⟩, .inr ⟨_, rfl⟩, .inr ⟨_, rfl⟩, ?_⟩
  have fl : (F.length < big) = True := eq_true (by show _ < 1000000; omega)
  rw [z_turn, z_nameG]
  rw [show (pw g style K F many o8 o9 o10 o11 o12)[9]? = some o9 from rfl, nameO_free h9, z_turnO, df_split]
  rw [show (pw g style K F many o8 o9 o10 o11 o12).set 9 (some (.val (.int (i : Int)))) = qv g style K F many o8 (i : Int) o10 o11 o12 none from rfl, e3]
  unfold df4 df5
  unfold rowE qv at e4
  unfold qv pw
  simp_all_arith [e4, asgO_free h12, ai, fl]
end
end Pi.K03


set_option linter.all false
set_option maxRecDepth 100000
set_option maxHeartbeats 1600000
set_option autoImplicit false
namespace Pi.K03
open PySem
section
variable {n : Int} {g K F : List PyData} {style many : Int} {o8 : Option Slot}
inductive Funs (K : List PyData) : List PyData → List PyData → Prop
  | nil : Funs K [] []
  | cons {k f : PyData} {ks fs : List PyData} : Fun K k f → Funs K ks fs → Funs K (k :: ks) (f :: fs)
theorem loop2 (hs : style = 0 ∨ style = 1 ∨ style = 2) (hk : ∀ e ∈ K, Sig e) (lk : K.length ≤ 8) : ∀ (m j : Nat) (n : Int) (g F : List PyData) (o9 o10 o11 o12 : Option Slot), j + m = K.length → F.length ≤ j → Gen n g → n + 1000 * m < 2 ^ 40 → Free o9 → Free o10 → Free o11 → Free o12 →
    ∃ fs g' p9 p10 p11 p12, Gen (n + 1000 * m) g' ∧ Funs K (K.drop j) fs ∧ forGo (turnS (nameG 9) df) ((List.range' j m).map fun (i : Nat) => .int (0 + (i : Int))) (pw g style K F many o8 o9 o10 o11 o12) = .ok .nx (pw g' style K (F ++ fs) many o8 p9 p10 p11 p12)
  | 0, j, n, g, F, o9, o10, o11, o12, hj, _, G, _, _, _, _, _ => ⟨[], g, o9, o10, o11, o12, by simpa using G, by rw [List.drop_eq_nil_of_le (by omega)]; exact .nil, by rw [List.append_nil]; rfl⟩
  | m + 1, j, n, g, F, o9, o10, o11, o12, hj, hF, G, hn, h9, h10, h11, h12 => by
    have hjl : j < K.length := by omega
    obtain ⟨f, g1, p10, p11, p12, G1, hf, q10, q11, q12, e1⟩ := turn2 (F := F) (many := many) (o8 := o8) hs hk lk (by omega) G (by omega) h9 h10 h11 h12 (i := j) (k := K[j]) (List.getElem?_eq_getElem hjl)
    have lF1 : (F ++ [f]).length = F.length + 1 := by simp
    obtain ⟨fs, g2, r9, r10, r11, r12, G2, hfs, e2⟩ := loop2 hs hk lk m (j + 1) (n + 1000) g1 (F ++ [f]) (some (.val (.int (j : Int)))) p10 p11 p12 (by omega) (by omega) G1 (by omega) (.inr ⟨_, rfl⟩) q10 q11 q12
    refine ⟨f :: fs, g2, r9, r10, r11, r12, G2.up (by omega), ?_, ?_⟩
    · rw [List.drop_eq_getElem_cons hjl]
      exact .cons hf hfs
    · rw [List.range'_succ, List.map_cons, z_forGo, Int.zero_add, e1, z_forN_nx, e2, List.append_assoc]
      rfl
def names4 : List PyData := [.str "main", .str "f", .str "g2", .str "helper"]
theorem nodup_names : names4.Nodup := by
  simp only [names4, List.nodup_cons, List.mem_cons, List.not_mem_nil, or_false, PyData.str.injEq, List.nodup_nil]
  decide +kernel
theorem names_texts : ∀ x ∈ names4, x ∈ texts := by
  intro x h
  simp only [names4, List.mem_cons, List.not_mem_nil, or_false] at h
  rcases h with rfl | rfl | rfl | rfl <;> simp [texts]
theorem Names.sig {nms ks : List PyData} (h : Names nms ks) (ht : ∀ x ∈ nms, x ∈ texts) : ∀ e ∈ ks, Sig e := by
  induction h with
  | nil => intro e he; cases he
  | cons h1 h2 h3 h ih =>
    intro e he
    rcases List.mem_cons.mp he with rfl | he
    · exact ⟨_, _, rfl, ht _ List.mem_cons_self, h1, h2⟩
    · exact ih (fun x hx => ht x (List.mem_cons_of_mem _ hx)) e he
theorem Names.len {nms ks : List PyData} (h : Names nms ks) : ks.length = nms.length := by
  induction h with
  | nil => rfl
  | cons _ _ _ _ ih => rw [List.length_cons, List.length_cons, ih]
/-- what a drawn program is -/
def Prog (p : PyData) : Prop := ∃ nms K fs, p = .tuple [.str "program", .list fs] ∧ nms.Nodup ∧ (∀ x ∈ nms, x ∈ texts) ∧ nms ≠ [] ∧ nms.length ≤ 4 ∧ Names nms K ∧ Funs K K fs
theorem prog_drawn (G : Gen n g) (hn : n < 2 ^ 38) : ∃ p g', f__law_drawn_program [.bor g, .d (.int 4), .d (.int 6), .d (.bool false)] = .ret (.d p) [g'] ∧ Gen (n + 5000) g' ∧ Prog p := by
  obtain ⟨style, g1, e1, G1, s0, s1⟩ := rnd G (by omega) (b := 3) (by decide) (by decide)
  have hs : style = 0 ∨ style = 1 ∨ style = 2 := by omega
  obtain ⟨c, g2, e2, G2, c0, c1⟩ := rnd G1 (by omega) (b := 8) (by decide) (by decide)
  have start : f__law_drawn_program [.bor g, .d (.int 4), .d (.int 6), .d (.bool false)] = endF [.bor g, .d (.int 4), .d (.int 6), .d (.bool false)] (m__law_drawn_program [some (.bor g), some (.val (.int 4)), some (.val (.int 6)), some (.val (.bool false)), none, none, none, none, none, none, none, none, none, none]) := by
    unfold f__law_drawn_program
    simp_arith []
  have z3 : ∀ {i : Nat} {o : Bool} {ma : PEnv → R Val} {j : Nat} {u : Bool} {mb : PEnv → R Val} {k : Nat} {v : Bool} {mc : PEnv → R Val} {env : PEnv}, par3S i o ma j u mb k v mc env = (ma env).bindO o (fun ra env => (mb env).bindO u fun rb env => (mc env).bindO v fun rc env => (asgV i o ra env).thenS fun env => (asgV j u rb env).thenS fun env => (asgV k v rc env).thenS skipS) := rfl
  -- how many functions
  obtain ⟨many, g3, m0, m1, G3, e3⟩ : ∃ (many : Int) (g3 : List PyData), 1 ≤ many ∧ many ≤ 4 ∧ Gen (n + 9) g3 ∧ ∀ r : PEnv → R Flow, seqS dp1 (seqS dp2 r) [some (.bor g), some (.val (.int 4)), some (.val (.int 6)), some (.val (.bool false)), none, none, none, none, none, none, none, none, none, none] = r (pv g3 style [] [] many none) := by
    by_cases h : 0 < c
    · refine ⟨4, g2, by decide, by decide, G2.up (by omega), fun r => ?_⟩
      unfold dp1 dp2 pv
      simp_all_arith [z3, z_bindO_t, z_bindO_f, e1, e2, h]
    · obtain ⟨q, g3, e3, G3, q0, q1⟩ := rnd G2 (by omega) (b := 4) (by decide) (by decide)
      refine ⟨1 + q, g3, by omega, by omega, G3.up (by omega), fun r => ?_⟩
      unfold dp1 dp2 pv
      simp_all_arith [z3, z_bindO_t, z_bindO_f, e1, e2, h, e3]
  have l4 : names4.length = 4 := rfl
  obtain ⟨p, g4, e4, hp, G4⟩ := order G3 (xs := names4) (fun x h => texts_T _ (names_texts _ h)) (by decide) (by omega)
  rw [l4] at G4
  have pl : p.length = 4 := hp.length_eq
  have hnms : (∀ x ∈ cutD p none (some many), x ∈ texts) ∧ (cutD p none (some many)).Nodup ∧ cutD p none (some many) ≠ [] ∧ (cutD p none (some many)).length ≤ 4 := by
    refine ⟨fun x h => names_texts _ (hp.mem_iff.mp (cut_mem h)), ?_, ?_, by have := cut_len p none (some many); omega⟩
    · rw [cut_take (by omega)]
      exact (List.take_sublist _ _).nodup (hp.symm.nodup nodup_names)
    · rw [cut_take (by omega)]
      intro z
      have := congrArg List.length z
      rw [List.length_take, pl] at this
      have h2 : min many.toNat 4 = 0 := this
      omega
  have eI : dnI (pv g3 style [] [] many none) = .ok (cutD p none (some many)) (pv g4 style [] [] many none) := by
    unfold names4 at e4
    unfold dnI pv
    simp_all_arith [e4]
  obtain ⟨t1, t2, t3, t4⟩ := hnms
  generalize cutD p none (some many) = nms at t1 t2 t3 t4 eI
  obtain ⟨K, g5, o8, G5, h8, hN, e5⟩ := loop1 (style := style) (F := []) (many := many) nms _ g4 [] none G4 (by omega) (by simp; omega) (.inl rfl)
  rw [List.nil_append] at e5
  have lK : K.length ≤ 4 := by rw [hN.len]; exact t4
  obtain ⟨fs, g6, p9, p10, p11, p12, G6, hfs, e6⟩ := loop2 (many := many) (o8 := o8) hs (hN.sig t1) (by omega) K.length 0 _ g5 [] none none none none (by omega) (by simp) G5 (by omega) (.inl rfl) (.inl rfl) (.inl rfl) (.inl rfl)
  rw [List.nil_append] at e6
  have cK : (-4611686018427387904 ≤ (K.length : Int) ∧ (K.length : Int) < 4611686018427387904) = True := eq_true (by omega)
  have i1 : intsD 0 ((K.length : Int)).toNat = (List.range' 0 K.length).map fun (i : Nat) => PyData.int (0 + (i : Int)) := by
    unfold intsD
    rw [Int.toNat_natCast, List.range_eq_range']
  have e7 : dfI (pv g5 style K [] many o8) = .ok ((List.range' 0 K.length).map fun (i : Nat) => PyData.int (0 + (i : Int))) (pw g5 style K [] many o8 none none none none) := by
    unfold dfI pv pw
    simp_all_arith [cK, i1]
  refine ⟨.tuple [.str "program", .list fs], g6, ?_, G6.up (by omega), nms, K, fs, rfl, t2, t1, t3, t4, hN, by simpa using hfs⟩
  rw [start, prog_split, e3, z_seq, dp3_eq, z_for, eI, z_bind_ok, z_for_k, e5, z_then_nx, z_seq, dp4_eq, z_for, e7, z_bind_ok, z_for_k, e6, z_then_nx]
  unfold dp5 pw
  simp_all_arith []
end
end Pi.K03


set_option linter.all false
set_option maxRecDepth 100000
set_option maxHeartbeats 1600000
set_option autoImplicit false
namespace Pi.K03
open PySem
section
variable {labels known : List PyData}
theorem allTrue : ∀ k : Nat, allD [.list (List.replicate k (.bool true))] = some (.d (.bool true)) := by
  intro k
  have e : boolsOf (List.replicate k (.bool true)) = some (List.replicate k true) := by
    induction k with
    | zero => rfl
    | succ k ih =>
      show (match boolsOf (List.replicate k (.bool true)) with
        | some is => some (true :: is)
        | none => none) = _
      rw [ih]
      rfl
  show (match boolsOf (List.replicate k (.bool true)) with
    | some is => some (Val.d (.bool (is.all id)))
    | none => none) = _
  rw [e]
  simp
/-- names of a call: at most two, words -/
theorem names_ok {vs : List PyData} (h : ∀ a ∈ vs, a ∈ texts) (l : vs.length ≤ 2) : f_are_names [.d (.tuple vs)] = .ret (.d (.bool true)) [] := by
  have ti : isiD "tuple" (.tuple vs) = some (.d (.bool true)) := by kernel_rfl
  have g6 : d_MOST_PARAMETERS = .int 6 := rfl
  unfold f_are_names m_are_names
  match vs, h, l with
  | [], _, _ => simp_arith! [ti, g6, show allD [PyData.list []] = some (Val.d (.bool true)) from rfl]
  | [a], h, _ =>
    have e1 := word_ok a (h a (by simp))
    simp_arith! [ti, g6, e1, allT1]
  | [a, b], h, _ =>
    have e1 := word_ok a (h a (by simp))
    have e2 := word_ok b (h b (by simp))
    simp_arith! [ti, g6, e1, e2, allT2]
theorem part_names {vs : List PyData} (h : ∀ a ∈ vs, a ∈ texts) (l : vs.length ≤ 2) : f_is_part [.d (.tuple vs), .d (.str "names")] = .ret (.d (.bool true)) [] := by
  have q1 : eqD (.str "names") (.str "number") = some (.d (.bool false)) := by kernel_rfl
  have q2 : eqD (.str "names") (.str "counter") = some (.d (.bool false)) := by kernel_rfl
  have q3 : eqD (.str "names") (.str "sign") = some (.d (.bool false)) := by kernel_rfl
  have q4 : eqD (.str "names") (.str "names") = some (.d (.bool true)) := by kernel_rfl
  have e := names_ok h l
  unfold f_is_part m_is_part
  simp_all_arith [q1, q2, q3, q4, e]
theorem sig_len {K : List PyData} (hk : ∀ e ∈ K, Sig e) {f : PyData} {ps : List PyData} (h : .tuple [f, .list ps] ∈ K) : f ∈ texts ∧ ps.length ≤ 2 := by
  obtain ⟨f', ps', e, hf, _, hl⟩ := hk _ h
  cases e
  exact ⟨hf, hl⟩
theorem end_ok (hl : ∀ l ∈ labels, l ∈ texts) (hk : ∀ e ∈ known, Sig e) {e : PyData} (h : Fin labels known e) : f_is_end [.d e] = .ret (.d (.bool true)) [] := by
  unfold f_is_end m_is_end
  cases h with
  | ret ha =>
    have f : ∀ a, f_first_word [.d (.tuple [.str "return", a])] = .ret (.d (.str "return")) [] := fun a => by kernel_rfl
    have t : tabGet t_ENDS (.str "return") = some (.d (.tuple [.str "word"])) := by kernel_rfl
    simp_arith! [f, t, parts1 (part_word _ ha)]
  | rais ha =>
    have f : ∀ a, f_first_word [.d (.tuple [.str "raise", a])] = .ret (.d (.str "raise")) [] := fun a => by kernel_rfl
    have t : tabGet t_ENDS (.str "raise") = some (.d (.tuple [.str "word"])) := by kernel_rfl
    simp_arith! [f, t, parts1 (part_word _ ha)]
  | go ha =>
    have f : ∀ a, f_first_word [.d (.tuple [.str "go", a])] = .ret (.d (.str "go")) [] := fun a => by kernel_rfl
    have t : tabGet t_ENDS (.str "go") = some (.d (.tuple [.str "word"])) := by kernel_rfl
    simp_arith! [f, t, parts1 (part_word _ (hl _ ha))]
  | test h1 h2 h3 =>
    have f : ∀ a b c, f_first_word [.d (.tuple [.str "test", a, b, c])] = .ret (.d (.str "test")) [] := fun a b c => by kernel_rfl
    have t : tabGet t_ENDS (.str "test") = some (.d (.tuple [.str "word", .str "word", .str "word"])) := by kernel_rfl
    simp_arith! [f, t, parts3 (part_word _ h1) (part_word _ (hl _ h2)) (part_word _ (hl _ h3))]
  | call h1 h2 h3 h4 h5 =>
    obtain ⟨hf, hlen⟩ := sig_len hk h2
    have f : ∀ a b c d, f_first_word [.d (.tuple [.str "call", a, b, c, d])] = .ret (.d (.str "call")) [] := fun a b c d => by kernel_rfl
    have t : tabGet t_ENDS (.str "call") = some (.d (.tuple [.str "word", .str "word", .str "names", .str "word"])) := by kernel_rfl
    simp_arith! [f, t, parts4 (part_word _ h1) (part_word _ hf) (part_names h4 (by omega)) (part_word _ (hl _ h5))]
  | try_ h1 h2 h3 h4 h5 h6 h7 =>
    obtain ⟨hf, hlen⟩ := sig_len hk h3
    have f : ∀ a b c d x y, f_first_word [.d (.tuple [.str "try", a, b, c, d, x, y])] = .ret (.d (.str "try")) [] := fun a b c d x y => by kernel_rfl
    have t : tabGet t_ENDS (.str "try") = some (.d (.tuple [.str "word", .str "word", .str "names", .str "word", .str "word", .str "word"])) := by kernel_rfl
    simp_arith! [f, t, parts6 (part_word _ h1) (part_word _ hf) (part_names h5 (by omega)) (part_word _ (hl _ h6)) (part_word _ h2) (part_word _ (hl _ h7))]
/-! ### steps and ends in a row -/
theorem steps_loop {S e : PyData} (b : List PyData) : True := trivial
theorem first_step {S : List PyData} {e : PyData} (hS : ∀ s ∈ S, Step s) (lS : S.length ≤ 4) (he : f_is_end [.d e] = .ret (.d (.bool true)) []) : f_first_wrong_step [.d (.list S), .d e] = .ret (.d .none) [] := by
  unfold f_first_wrong_step m_first_wrong_step
  match S, hS, lS with
  | [], _, _ => simp_arith! [enumD, he]
  | [a], h, _ =>
    have e1 := step_ok (h a (by simp))
    simp_arith! [enumD, he, e1]
  | [a, b], h, _ =>
    have e1 := step_ok (h a (by simp))
    have e2 := step_ok (h b (by simp))
    simp_arith! [enumD, he, e1, e2]
  | [a, b, c], h, _ =>
    have e1 := step_ok (h a (by simp))
    have e2 := step_ok (h b (by simp))
    have e3 := step_ok (h c (by simp))
    simp_arith! [enumD, he, e1, e2, e3]
  | [a, b, c, d], h, _ =>
    have e1 := step_ok (h a (by simp))
    have e2 := step_ok (h b (by simp))
    have e3 := step_ok (h c (by simp))
    have e4 := step_ok (h d (by simp))
    simp_arith! [enumD, he, e1, e2, e3, e4]
end
end Pi.K03


set_option linter.all false
set_option maxRecDepth 100000
set_option maxHeartbeats 1600000
set_option autoImplicit false
namespace Pi.K03
open PySem PySem.Spec PyProof.Rows L2
section
variable {labels known K : List PyData}
theorem fin_tuple {e : PyData} (h : Fin labels known e) : ∃ es, e = .tuple es := by cases h <;> exact ⟨_, rfl⟩
theorem block_ok (hl : ∀ l ∈ labels, l ∈ texts) {l b : PyData} (hll : l ∈ texts) (h : Block labels known l b) : f_is_block [.d b] = .ret (.d (.bool true)) [] := by
  obtain ⟨S, e, rfl, _, _, hf⟩ := h
  obtain ⟨es, rfl⟩ := fin_tuple hf
  have t3 : f_is_tuple_of [.d (.tuple [l, .list S, .tuple es]), .d (.int 3)] = .ret (.d (.bool true)) [] := by kernel_rfl
  have i1 : isiD "list" (.list S) = some (.d (.bool true)) := by kernel_rfl
  have i2 : isiD "tuple" (.tuple es) = some (.d (.bool true)) := by kernel_rfl
  have e1 := word_ok l hll
  unfold f_is_block m_is_block
  simp_all_arith [t3, e1, i1, i2]
/-- the keys of texts -/
def keys : List PyData → List Key
  | [] => []
  | .str s :: r => .inr s :: keys r
  | _ :: r => keys r
theorem hasK_keys {s : Str} : ∀ {xs : List PyData}, (∀ x ∈ xs, IsT x) → PyData.str s ∉ xs → hasK (keys xs) (.inr s) = false
  | [], _, _ => rfl
  | x :: xs, h, n => by
    obtain ⟨t, rfl, _⟩ := h x List.mem_cons_self
    have ih := hasK_keys (s := s) (xs := xs) (fun y hy => h y (List.mem_cons_of_mem _ hy)) (fun m => n (List.mem_cons_of_mem _ m))
    show (decide (Sum.inr t = (Sum.inr s : Key)) || hasK (keys xs) (.inr s)) = false
    rw [ih, Bool.or_false]
    refine decide_eq_false fun e => n ?_
    cases e
    exact List.mem_cons_self
theorem keys_app {s : Str} : ∀ {xs : List PyData}, keys (xs ++ [.str s]) = keys xs ++ [.inr s]
  | [] => rfl
  | x :: xs => by
    have ih := keys_app (s := s) (xs := xs)
    cases x with
    | str t => show .inr t :: keys (xs ++ [.str s]) = .inr t :: (keys xs ++ [.inr s]); rw [ih]
    | _ => exact ih
theorem keys_len : ∀ {xs : List PyData}, (keys xs).length ≤ xs.length
  | [] => Nat.le_refl _
  | x :: xs => by
    have ih := keys_len (xs := xs)
    cases x <;> first | exact Nat.succ_le_succ ih | exact Nat.le_succ_of_le ih
end
end Pi.K03


set_option linter.all false
set_option maxRecDepth 100000
set_option maxHeartbeats 1600000
set_option autoImplicit false
namespace Pi.K03
open PySem PySem.Spec PyProof.Rows L2
def wb : PEnv → R Flow := seqS (ifS (notT (truT (callE f_is_block (consA (slotE 4) (nilA))))) (retS (tupE (consA (tupE (consA (slotE 0) (consA (slotE 3) (nilA)))) (consA (cstE (.str "form")) (nilA))))) (skipS)) (seqS (ifS (boolT (inSetE false (binE ixD2 (slotE 4) (cstE (.int 0))) 2)) (retS (tupE (consA (tupE (consA (slotE 0) (consA (slotE 3) (nilA)))) (consA (cstE (.str "twice")) (nilA))))) (skipS)) (seqS (exprS (saddE 2 (consA (binE ixD2 (slotE 4) (cstE (.int 0))) (nilA)))) (seqS (unpS (tupG [nameG 5, nameG 6, nameG 7]) (slotE 4)) (seqS (asgS 8 false (callE f_first_wrong_step (consA (slotE 6) (consA (slotE 7) (nilA))))) (ifS (boolT (binE isnotD (slotE 8) (cstE .none))) (retS (tupE (consA (tupE (consA (slotE 0) (consA (slotE 3) (consA (slotE 8) (nilA))))) (consA (cstE (.str "form")) (nilA))))) (skipS))))))
theorem wb_eq : m_first_wrong_block = seqS (set0S 2) (seqS (forS (enumI (slotE 1)) (tupG [nameG 3, nameG 4]) wb) (retS (cstE .none))) := rfl
def wf : PEnv → R Flow := seqS (ifS (notT (truT (callE f_is_function (consA (slotE 3) (nilA))))) (retS (tupE (consA (tupE (consA (slotE 2) (nilA))) (consA (cstE (.str "form")) (nilA))))) (skipS)) (seqS (ifS (boolT (inSetE false (binE ixD2 (slotE 3) (cstE (.int 0))) 1)) (retS (tupE (consA (tupE (consA (slotE 2) (nilA))) (consA (cstE (.str "twice")) (nilA))))) (skipS)) (seqS (exprS (saddE 1 (consA (binE ixD2 (slotE 3) (cstE (.int 0))) (nilA)))) (seqS (asgS 4 false (callE f_first_wrong_block (consA (slotE 2) (consA (binE ixD2 (slotE 3) (cstE (.int 2))) (nilA))))) (ifS (boolT (binE isnotD (slotE 4) (cstE .none))) (retS (slotE 4)) (skipS)))))
theorem wf_eq : m_first_wrong_form = seqS (set0S 1) (seqS (forS (enumI (slotE 0)) (tupG [nameG 2, nameG 3]) wf) (retS (cstE .none))) := rfl
section
variable {labels K : List PyData} {f : PyData} {blocks : List PyData} {o3 o4 o5 o6 o7 o8 : Option Slot}
abbrev wv (f : PyData) (blocks : List PyData) (ks : List Key) (o3 o4 o5 o6 o7 o8 : Option Slot) : PEnv := [some (.val f), some (.val (.list blocks)), some (.set ks), o3, o4, o5, o6, o7, o8]
theorem turn_b (hl : ∀ l ∈ labels, l ∈ texts) (hk : ∀ e ∈ K, Sig e) {ks : List Key} {s : Str} {b : PyData} (hs : .str s ∈ texts) (hb : Block labels K (.str s) b) (nk : hasK ks (.inr s) = false) (lk : ks.length < 1000) (j : Nat) (h3 : Free o3) (h4 : Free o4) (h5 : Free o5) (h6 : Free o6) (h7 : Free o7) (h8 : Free o8) :
    ∃ p3 p4 p5 p6 p7 p8, Free p3 ∧ Free p4 ∧ Free p5 ∧ Free p6 ∧ Free p7 ∧ Free p8 ∧ turnS (tupG [nameG 3, nameG 4]) wb (.tuple [.int (j : Nat), b]) (wv f blocks ks o3 o4 o5 o6 o7 o8) = .ok .nx (wv f blocks (ks ++ [.inr s]) p3 p4 p5 p6 p7 p8) := by
  have e1 := block_ok hl hs hb
  obtain ⟨S, e, rfl, hS, lS, hf⟩ := hb
  have e2 := first_step hS lS (end_ok hl hk hf)
  have dk : dKey (.str s) = some (.inr s) := rfl
  have lk' : (ks.length < 1000) = True := eq_true lk
  have nn : isnotD .none .none = some (.d (.bool false)) := rfl
  refine ⟨some (.val (.int (j : Nat))), some (.val (.tuple [.str s, .list S, e])), some (.val (.str s)), some (.val (.list S)), some (.val e), some (.val .none), .inr ⟨_, rfl⟩, .inr ⟨_, rfl⟩, .inr ⟨_, rfl⟩, .inr ⟨_, rfl⟩, .inr ⟨_, rfl⟩, .inr ⟨_, rfl⟩, ?_⟩
  unfold wb wv
  simp_all_arith! [nameO_free h3, nameO_free h4, nameO_free h5, nameO_free h6, nameO_free h7, asgO_free h8, e1, dk, nk, lk', e2, nn]
theorem blocks_loop (hl : ∀ l ∈ labels, l ∈ texts) (hk : ∀ e ∈ K, Sig e) : ∀ (ls bs done : List PyData) (j : Nat) (o3 o4 o5 o6 o7 o8 : Option Slot), Rows labels K ls bs → (done ++ ls).Nodup → (∀ x ∈ done ++ ls, x ∈ texts) → (done ++ ls).length < 900 → Free o3 → Free o4 → Free o5 → Free o6 → Free o7 → Free o8 →
    ∃ p ks, forGo (turnS (tupG [nameG 3, nameG 4]) wb) (enumD j bs) (wv f blocks (keys done) o3 o4 o5 o6 o7 o8) = .ok .nx (some (.val f) :: some (.val (.list blocks)) :: some (.set ks) :: p)
  | _, _, done, j, o3, o4, o5, o6, o7, o8, .nil, _, _, _, _, _, _, _, _, _ => ⟨_, _, rfl⟩
  | _, _, done, j, o3, o4, o5, o6, o7, o8, .cons (l := l) (b := b) (ls := ls) (bs := bs) hb hr, nd, ht, hlen, h3, h4, h5, h6, h7, h8 => by
    have hlt : l ∈ texts := ht l (by simp)
    obtain ⟨s, rfl, _⟩ := texts_T l hlt
    have nin : PyData.str s ∉ done := fun h => (List.nodup_append.mp nd).2.2 _ h _ List.mem_cons_self rfl
    have nk : hasK (keys done) (.inr s) = false := hasK_keys (fun x h => texts_T _ (ht x (List.mem_append_left _ h))) nin
    have l1 : (keys done).length ≤ done.length := keys_len
    have l2 : done.length < 900 := by rw [List.length_append] at hlen; omega
    obtain ⟨p3, p4, p5, p6, p7, p8, q3, q4, q5, q6, q7, q8, e1⟩ := turn_b (f := f) (blocks := blocks) hl hk hlt hb nk (by omega) j h3 h4 h5 h6 h7 h8
    have ap : done ++ .str s :: ls = (done ++ [.str s]) ++ ls := by simp
    rw [ap] at nd ht hlen
    obtain ⟨p, ks, e2⟩ := blocks_loop hl hk ls bs (done ++ [.str s]) (j + 1) p3 p4 p5 p6 p7 p8 hr nd ht hlen q3 q4 q5 q6 q7 q8
    refine ⟨p, ks, ?_⟩
    rw [show enumD j (b :: bs) = .tuple [.int (j : Nat), b] :: enumD (j + 1) bs from rfl, z_forGo, e1, z_forN_nx, ← keys_app, e2]
theorem blocks_ok (hl : ∀ l ∈ labels, l ∈ texts) (hk : ∀ e ∈ K, Sig e) (nd : labels.Nodup) (lL : labels.length ≤ 8) {bs : List PyData} (hr : Rows labels K labels bs) (f : PyData) : f_first_wrong_block [.d f, .d (.list bs)] = .ret (.d .none) [] := by
  obtain ⟨p, ks, e⟩ := blocks_loop (f := f) (blocks := bs) hl hk labels bs [] 0 none none none none none none hr (by simpa using nd) (by simpa using hl) (by simp; omega) (.inl rfl) (.inl rfl) (.inl rfl) (.inl rfl) (.inl rfl) (.inl rfl)
  unfold f_first_wrong_block
  rw [wb_eq]
  unfold wv keys at e
  simp_all_arith! [e]
end
end Pi.K03


set_option linter.all false
set_option maxRecDepth 100000
set_option maxHeartbeats 1600000
set_option autoImplicit false
namespace Pi.K03
open PySem PySem.Spec PyProof.Rows L2
section
variable {K : List PyData}
theorem Names.mem {nms ks : List PyData} (h : Names nms ks) {nm : PyData} {ps : List PyData} (m : .tuple [nm, .list ps] ∈ ks) : nm ∈ nms ∧ (∀ p ∈ ps, p ∈ params) ∧ ps.length ≤ 2 ∧ ps.Nodup := by
  induction h with
  | nil => cases m
  | cons h1 h2 h3 h ih =>
    rcases List.mem_cons.mp m with e | m
    · cases e
      exact ⟨List.mem_cons_self, h1, h2, h3⟩
    · obtain ⟨a, b⟩ := ih m
      exact ⟨List.mem_cons_of_mem _ a, b⟩
theorem unlike_ok {ps : List PyData} (h : ∀ p ∈ ps, p ∈ params) (l : ps.length ≤ 2) (nd : ps.Nodup) : f_are_unlike [.d (.list ps)] = .ret (.d (.bool true)) [] := by
  match ps, h, l, nd with
  | [], _, _, _ => kernel_rfl
  | [a], h, _, _ =>
    have ha := h a (by simp)
    simp only [params, List.mem_cons, List.not_mem_nil, or_false] at ha
    rcases ha with rfl | rfl | rfl | rfl <;> kernel_rfl
  | [a, b], h, _, nd =>
    have ha := h a (by simp)
    have hb := h b (by simp)
    have ne : a ≠ b := by
      intro e
      subst e
      simp at nd
    simp only [params, List.mem_cons, List.not_mem_nil, or_false] at ha hb
    rcases ha with rfl | rfl | rfl | rfl <;> rcases hb with rfl | rfl | rfl | rfl <;> first | exact absurd rfl ne | kernel_rfl
theorem tb_word : tbOf [("is_word", f_is_word)] "is_word" = some f_is_word := by kernel_rfl
theorem params_ok {ps : List PyData} (h : ∀ p ∈ ps, p ∈ params) (l : ps.length ≤ 2) (nd : ps.Nodup) : f_are_parameters [.d (.list ps), .fn "is_word"] = .ret (.d (.bool true)) [] := by
  have e0 := unlike_ok h l nd
  have g6 : d_MOST_PARAMETERS = .int 6 := rfl
  unfold f_are_parameters m_are_parameters
  match ps, h, l, nd, e0 with
  | [], _, _, _, e0 =>
    have e1 : f_is_list_of [.d (.list []), .d (.int 0), .d (.int 6)] = .ret (.d (.bool true)) [] := by kernel_rfl
    simp_arith! [e0, e1, g6, show allD [PyData.list []] = some (Val.d (.bool true)) from rfl]
  | [a], h, _, _, e0 =>
    have e1 : ∀ a, f_is_list_of [.d (.list [a]), .d (.int 0), .d (.int 6)] = .ret (.d (.bool true)) [] := fun a => by kernel_rfl
    have w1 := word_ok a (params_texts _ (h a (by simp)))
    simp_arith! [e0, e1, g6, tb_word, w1, allT1]
  | [a, b], h, _, _, e0 =>
    have e1 : ∀ a b, f_is_list_of [.d (.list [a, b]), .d (.int 0), .d (.int 6)] = .ret (.d (.bool true)) [] := fun a b => by kernel_rfl
    have w1 := word_ok a (params_texts _ (h a (by simp)))
    have w2 := word_ok b (params_texts _ (h b (by simp)))
    simp_arith! [e0, e1, g6, tb_word, w1, w2, allT2]
theorem Rows.len {labels ls bs : List PyData} (h : Rows labels K ls bs) : bs.length = ls.length := by
  induction h with
  | nil => rfl
  | cons _ _ ih => rw [List.length_cons, List.length_cons, ih]
theorem listof_ok {bs : List PyData} (h0 : 1 ≤ bs.length) (h1 : bs.length ≤ 8) : f_is_list_of [.d (.list bs), .d (.int 1), .d (.int 160)] = .ret (.d (.bool true)) [] := by
  have i1 : isiD "list" (.list bs) = some (.d (.bool true)) := by kernel_rfl
  have c1 : ((1 : Int) ≤ (bs.length : Int)) = True := eq_true (by omega)
  have c2 : ((bs.length : Int) ≤ 160) = True := eq_true (by omega)
  unfold f_is_list_of m_is_list_of
  simp_all_arith [i1, c1, c2]
theorem fun_ok {k f : PyData} {nms : List PyData} (hN : Names nms K) (ht : ∀ x ∈ nms, x ∈ texts) (hk : k ∈ K) (h : Fun K k f) : f_is_function [.d f] = .ret (.d (.bool true)) [] := by
  obtain ⟨nm, ps, labels, bs, rfl, rfl, nd, ne, hl, lL, hr⟩ := h
  obtain ⟨m1, m2, m3, m4⟩ := hN.mem hk
  have t3 : f_is_tuple_of [.d (.tuple [nm, .list ps, .list bs]), .d (.int 3)] = .ret (.d (.bool true)) [] := by kernel_rfl
  have w := word_ok nm (ht _ m1)
  have p := params_ok m2 m3 m4
  have lb : 0 < labels.length := List.length_pos_iff.mpr ne
  have q := listof_ok (bs := bs) (by rw [hr.len]; omega) (by rw [hr.len]; omega)
  have g : d_MOST_BLOCKS = .int 160 := rfl
  unfold f_is_function m_is_function
  simp_all_arith [t3, w, p, q, g]
end
end Pi.K03


set_option linter.all false
set_option maxRecDepth 100000
set_option maxHeartbeats 1600000
set_option autoImplicit false
namespace Pi.K03
open PySem PySem.Spec PyProof.Rows L2
section
variable {K : List PyData} {fns : List PyData} {o2 o3 o4 : Option Slot} {nms : List PyData}
abbrev fv (fns : List PyData) (ks : List Key) (o2 o3 o4 : Option Slot) : PEnv := [some (.val (.list fns)), some (.set ks), o2, o3, o4]
theorem turn_f (hN : Names nms K) (ht : ∀ x ∈ nms, x ∈ texts) {ks : List Key} {s : Str} {ps : List PyData} {fn : PyData} (hk : .tuple [.str s, .list ps] ∈ K) (hf : Fun K (.tuple [.str s, .list ps]) fn) (nk : hasK ks (.inr s) = false) (lk : ks.length < 1000) (j : Nat) (h2 : Free o2) (h3 : Free o3) (h4 : Free o4) :
    ∃ p2 p3 p4, Free p2 ∧ Free p3 ∧ Free p4 ∧ turnS (tupG [nameG 2, nameG 3]) wf (.tuple [.int (j : Nat), fn]) (fv fns ks o2 o3 o4) = .ok .nx (fv fns (ks ++ [.inr s]) p2 p3 p4) := by
  have e1 := fun_ok hN ht hk hf
  obtain ⟨nm, ps', labels, bs, hk', rfl, nd, ne, hl, lL, hr⟩ := hf
  cases hk'
  have e2 := blocks_ok hl (hN.sig ht) nd lL hr (.int (j : Nat))
  have dk : dKey (.str s) = some (.inr s) := rfl
  have lk' : (ks.length < 1000) = True := eq_true lk
  have nn : isnotD .none .none = some (.d (.bool false)) := rfl
  refine ⟨some (.val (.int (j : Nat))), some (.val (.tuple [.str s, .list ps, .list bs])), some (.val .none), .inr ⟨_, rfl⟩, .inr ⟨_, rfl⟩, .inr ⟨_, rfl⟩, ?_⟩
  unfold wf fv
  simp_all_arith! [nameO_free h2, nameO_free h3, asgO_free h4, e1, dk, nk, lk', e2, nn]
theorem form_loop (hN : Names nms K) (ht : ∀ x ∈ nms, x ∈ texts) : ∀ (nl kl fl done : List PyData) (j : Nat) (o2 o3 o4 : Option Slot), Names nl kl → Funs K kl fl → (∀ k ∈ kl, k ∈ K) → (done ++ nl).Nodup → (∀ x ∈ done ++ nl, x ∈ texts) → (done ++ nl).length < 900 → Free o2 → Free o3 → Free o4 →
    ∃ p ks, forGo (turnS (tupG [nameG 2, nameG 3]) wf) (enumD j fl) (fv fns (keys done) o2 o3 o4) = .ok .nx (some (.val (.list fns)) :: some (.set ks) :: p)
  | _, _, _, done, j, o2, o3, o4, .nil, .nil, _, _, _, _, _, _, _ => ⟨_, _, rfl⟩
  | _, _, _, done, j, o2, o3, o4, .cons (nm := nm) (ps := ps) (nms := nl) (ks := kl) a1 a2 a3 hn, .cons (f := f) (fs := fl) hf hfs, hK, nd, hx, hlen, h2, h3, h4 => by
    have hlt : nm ∈ texts := hx nm (by simp)
    obtain ⟨s, rfl, _⟩ := texts_T nm hlt
    have nin : PyData.str s ∉ done := fun h => (List.nodup_append.mp nd).2.2 _ h _ List.mem_cons_self rfl
    have nk : hasK (keys done) (.inr s) = false := hasK_keys (fun x h => texts_T _ (hx x (List.mem_append_left _ h))) nin
    have l1 : (keys done).length ≤ done.length := keys_len
    have l2 : done.length < 900 := by rw [List.length_append] at hlen; omega
    obtain ⟨p2, p3, p4, q2, q3, q4, e1⟩ := turn_f (fns := fns) hN ht (hK _ List.mem_cons_self) hf nk (by omega) j h2 h3 h4
    have ap : done ++ .str s :: nl = (done ++ [.str s]) ++ nl := by simp
    rw [ap] at nd hx hlen
    obtain ⟨p, ks, e2⟩ := form_loop hN ht nl kl fl (done ++ [.str s]) (j + 1) p2 p3 p4 hn hfs (fun k h => hK k (List.mem_cons_of_mem _ h)) nd hx hlen q2 q3 q4
    refine ⟨p, ks, ?_⟩
    rw [show enumD j (f :: fl) = .tuple [.int (j : Nat), f] :: enumD (j + 1) fl from rfl, z_forGo, e1, z_forN_nx, ← keys_app, e2]
theorem form_ok (hN : Names nms K) (ht : ∀ x ∈ nms, x ∈ texts) (nd : nms.Nodup) (l4 : nms.length ≤ 4) {fs : List PyData} (hf : Funs K K fs) : f_first_wrong_form [.d (.list fs)] = .ret (.d .none) [] := by
  obtain ⟨p, ks, e⟩ := form_loop (fns := fs) hN ht nms K fs [] 0 none none none hN hf (fun _ h => h) (by simpa using nd) (by simpa using ht) (by simp; omega) (.inl rfl) (.inl rfl) (.inl rfl)
  unfold f_first_wrong_form
  rw [wf_eq]
  unfold fv keys at e
  simp_all_arith! [e]
end
end Pi.K03


set_option linter.all false
set_option maxRecDepth 100000
set_option maxHeartbeats 1600000
set_option autoImplicit false
namespace Pi.K03
open PySem PySem.Spec PyProof.Rows L2
section
variable {labels K : List PyData} {L M : PyData}
theorem why_ok (hL : ∀ l ∈ labels, notinDX l L = some (.d (.bool false))) (hM : ∀ f ps, .tuple [f, .list ps] ∈ K → notinDX f M = some (.d (.bool false)) ∧ ixD2 M f = some (.d (.int ps.length))) {e : PyData} (h : Fin labels K e) : f_why_unfit [.d e, .d L, .d M] = .ret (.d .none) [] := by
  have t1 : ∀ w ∈ [PyData.str "go", .str "test", .str "return", .str "raise"], notinDX w (.tuple [.str "call", .str "try"]) = some (.d (.bool true)) := by
    intro w hw
    simp only [List.mem_cons, List.not_mem_nil, or_false] at hw
    rcases hw with rfl | rfl | rfl | rfl <;> kernel_rfl
  have t2 : ∀ w ∈ [PyData.str "call", .str "try"], notinDX w (.tuple [.str "call", .str "try"]) = some (.d (.bool false)) := by
    intro w hw
    simp only [List.mem_cons, List.not_mem_nil, or_false] at hw
    rcases hw with rfl | rfl <;> kernel_rfl
  have t3 : ∀ n k : Int, neD (.int n) (.int k) = some (.d (.bool (!(n == k)))) := fun _ _ => rfl
  unfold f_why_unfit m_why_unfit
  cases h with
  | ret ha =>
    have e1 : ∀ a, f_labels_of [.d (.tuple [.str "return", a])] = .ret (.new []) [] := fun a => by kernel_rfl
    simp_all_arith [e1, t1 (.str "return") (by simp)]
  | rais ha =>
    have e1 : ∀ a, f_labels_of [.d (.tuple [.str "raise", a])] = .ret (.new []) [] := fun a => by kernel_rfl
    simp_all_arith [e1, t1 (.str "raise") (by simp)]
  | go ha =>
    have e1 : ∀ a, f_labels_of [.d (.tuple [.str "go", a])] = .ret (.new [a]) [] := fun a => by kernel_rfl
    simp_all_arith [e1, t1 (.str "go") (by simp), hL _ ha]
  | test h1 h2 h3 =>
    have e1 : ∀ a b c, f_labels_of [.d (.tuple [.str "test", a, b, c])] = .ret (.new [b, c]) [] := fun a b c => by kernel_rfl
    simp_all_arith [e1, t1 (.str "test") (by simp), hL _ h2, hL _ h3]
  | call h1 h2 h3 h4 h5 =>
    have e1 : ∀ a b c d, f_labels_of [.d (.tuple [.str "call", a, b, c, d])] = .ret (.new [d]) [] := fun a b c d => by kernel_rfl
    obtain ⟨m1, m2⟩ := hM _ _ h2
    simp_all_arith [e1, t2 (.str "call") (by simp), hL _ h5, m1, m2, t3, h3, beq_self_eq_true]
  | try_ h1 h2 h3 h4 h5 h6 h7 =>
    have e1 : ∀ a b c d x y, f_labels_of [.d (.tuple [.str "try", a, b, c, d, x, y])] = .ret (.new [d, y]) [] := fun a b c d x y => by kernel_rfl
    obtain ⟨m1, m2⟩ := hM _ _ h3
    simp_all_arith [e1, t2 (.str "try") (by simp), hL _ h6, hL _ h7, m1, m2, t3, h4, beq_self_eq_true]
end
end Pi.K03


set_option linter.all false
set_option maxRecDepth 100000
set_option maxHeartbeats 1600000
set_option autoImplicit false
namespace Pi.K03
open PySem PySem.Spec PyProof.Rows L2
def dz1 : PEnv → R Flow := asgS 2 false (dcE [1] (seqI (slotE 0)) (nameG 1) (yesT) (binE ixD2 (slotE 1) (cstE (.int 0))) (bltE lenD (consA (binE ixD2 (slotE 1) (cstE (.int 1))) (nilA))))
def dz2 : PEnv → R Flow := forS (enumI (slotE 0)) (tupG [nameG 3, nameG 1]) (seqS (asgS 5 false (dcE [4] (seqI (binE ixD2 (slotE 1) (cstE (.int 2)))) (nameG 4) (yesT) (binE ixD2 (slotE 4) (cstE (.int 0))) (cstE (.bool true)))) (forS (enumI (binE ixD2 (slotE 1) (cstE (.int 2)))) (tupG [nameG 6, nameG 4]) (seqS (unpS (tupG [nameG 7, nameG 8, nameG 9]) (slotE 4)) (seqS (asgS 10 false (callE f_why_unfit (consA (slotE 9) (consA (slotE 5) (consA (slotE 2) (nilA)))))) (ifS (boolT (binE isnotD (slotE 10) (cstE .none))) (retS (tupE (consA (tupE (consA (slotE 3) (consA (slotE 6) (consA (bltE lenD (consA (slotE 8) (nilA))) (nilA))))) (consA (slotE 10) (nilA))))) (skipS))))))
def dz3 : PEnv → R Flow := retS (cstE .none)
theorem fe_split : m_first_wrong_end = seqS dz1 (seqS dz2 dz3) := rfl
def we : PEnv → R Flow := seqS (asgS 5 false (dcE [4] (seqI (binE ixD2 (slotE 1) (cstE (.int 2)))) (nameG 4) (yesT) (binE ixD2 (slotE 4) (cstE (.int 0))) (cstE (.bool true)))) (forS (enumI (binE ixD2 (slotE 1) (cstE (.int 2)))) (tupG [nameG 6, nameG 4]) (seqS (unpS (tupG [nameG 7, nameG 8, nameG 9]) (slotE 4)) (seqS (asgS 10 false (callE f_why_unfit (consA (slotE 9) (consA (slotE 5) (consA (slotE 2) (nilA)))))) (ifS (boolT (binE isnotD (slotE 10) (cstE .none))) (retS (tupE (consA (tupE (consA (slotE 3) (consA (slotE 6) (consA (bltE lenD (consA (slotE 8) (nilA))) (nilA))))) (consA (slotE 10) (nilA))))) (skipS)))))
theorem dz2_eq : dz2 = forS (enumI (slotE 0)) (tupG [nameG 3, nameG 1]) we := rfl
def we1 : PEnv → R Flow := asgS 5 false (dcE [4] (seqI (binE ixD2 (slotE 1) (cstE (.int 2)))) (nameG 4) (yesT) (binE ixD2 (slotE 4) (cstE (.int 0))) (cstE (.bool true)))
def wi : PEnv → R Flow := seqS (unpS (tupG [nameG 7, nameG 8, nameG 9]) (slotE 4)) (seqS (asgS 10 false (callE f_why_unfit (consA (slotE 9) (consA (slotE 5) (consA (slotE 2) (nilA)))))) (ifS (boolT (binE isnotD (slotE 10) (cstE .none))) (retS (tupE (consA (tupE (consA (slotE 3) (consA (slotE 6) (consA (bltE lenD (consA (slotE 8) (nilA))) (nilA))))) (consA (slotE 10) (nilA))))) (skipS)))
theorem we_eq : we = seqS we1 (forS (enumI (binE ixD2 (slotE 1) (cstE (.int 2)))) (tupG [nameG 6, nameG 4]) wi) := rfl
section
variable {labels K : List PyData}
/-- the text with which a tuple begins -/
def keyOf : PyData → Str
  | .tuple (.str s :: _) => s
  | _ => ⟨#[]⟩
theorem Rows.keys {ls bs : List PyData} (h : Rows labels K ls bs) (ht : ∀ x ∈ ls, x ∈ texts) : bs.map (fun b => PyData.str (keyOf b)) = ls ∧ ∀ b ∈ bs, ∃ r, b = .tuple (.str (keyOf b) :: r) := by
  induction h with
  | nil => exact ⟨rfl, fun _ h => nomatch h⟩
  | cons hb hr ih =>
    obtain ⟨S, e, rfl, _⟩ := hb
    obtain ⟨s, rfl, _⟩ := texts_T _ (ht _ List.mem_cons_self)
    obtain ⟨i1, i2⟩ := ih fun x hx => ht x (List.mem_cons_of_mem _ hx)
    refine ⟨by rw [List.map_cons, i1]; rfl, fun b hb => ?_⟩
    rcases List.mem_cons.mp hb with rfl | hb
    · exact ⟨_, rfl⟩
    · exact i2 b hb
theorem nodup_keys {xs : List PyData} (h : (xs.map fun b => PyData.str (keyOf b)).Nodup) : (xs.map keyOf).Nodup := by
  rw [show (xs.map fun b => PyData.str (keyOf b)) = (xs.map keyOf).map PyData.str by rw [List.map_map]; rfl] at h
  exact List.Pairwise.of_map PyData.str (fun a b ne e => ne (by rw [e])) h
abbrev lv (fs : List PyData) (fn many : PyData) (o3 o4 o5 o6 o7 o8 o9 o10 : Option Slot) : PEnv := [some (.val (.list fs)), some (.val fn), some (.val many), o3, o4, o5, o6, o7, o8, o9, o10]
def LD (bs : List PyData) : PyData := .dict (mkD (bs.map fun b => (keyOf b, .bool true)))
theorem plain_free {o : Option Slot} (h : Free o) : plainO (some o) = true := by
  rcases h with rfl | ⟨x, rfl⟩ <;> rfl
theorem rows_dict {fs : List PyData} {nm x many : PyData} {ls bs : List PyData} {o3 o4 o5 o6 o7 o8 o9 o10 : Option Slot} (h : Rows labels K ls bs) (ht : ∀ x ∈ ls, x ∈ texts) (nd : ls.Nodup) (lb : bs.length ≤ 8) (h4 : Free o4) (h5 : Free o5) :
    we1 (lv fs (.tuple [nm, x, .list bs]) many o3 o4 o5 o6 o7 o8 o9 o10) = .ok .nx (lv fs (.tuple [nm, x, .list bs]) many o3 o4 (some (.val (LD bs))) o6 o7 o8 o9 o10) := by
  obtain ⟨k1, k2⟩ := h.keys ht
  have dg := dict_go (j := 4) (ek := binE ixD2 (slotE 4) (cstE (.int 0))) (ev := cstE (.bool true)) (env := [some (.val (.list fs)), some (.val (.tuple [nm, x, .list bs])), some (.val many), o3, none, o5, o6, o7, o8, o9, o10]) (key := keyOf) (vl := fun _ => .bool true) rfl bs [] (fun b hb => by
    obtain ⟨r, e⟩ := k2 b hb
    refine ⟨?_, .d (.bool true), rfl, rfl⟩
    generalize keyOf b = s at e ⊢
    subst e
    simp_all_arith []) (by simpa using nodup_keys (k1 ▸ nd)) (by simp; omega)
  unfold we1 lv
  unfold mkD at dg
  simp_all_arith [z_dc, z_dc_k, plain_free h4, asgO_free h5]
  rw [List.map_nil, List.nil_append] at dg
  rw [dg]
  simp_all_arith [z_dcFin, asgO_free h5]
  rfl
end
end Pi.K03


set_option linter.all false
set_option maxRecDepth 100000
set_option maxHeartbeats 1600000
set_option autoImplicit false
namespace Pi.K03
open PySem PySem.Spec PyProof.Rows L2
section
variable {labels K : List PyData} {fs : List PyData} {fn many L : PyData} {o3 o4 o6 o7 o8 o9 o10 : Option Slot}
theorem turn_i (hL : ∀ l ∈ labels, notinDX l L = some (.d (.bool false))) (hM : ∀ f ps, .tuple [f, .list ps] ∈ K → notinDX f many = some (.d (.bool false)) ∧ ixD2 many f = some (.d (.int ps.length))) {l b : PyData} (hb : Block labels K l b) (j : Nat) (h4 : Free o4) (h6 : Free o6) (h7 : Free o7) (h8 : Free o8) (h9 : Free o9) (h10 : Free o10) :
    ∃ p4 p6 p7 p8 p9 p10, Free p4 ∧ Free p6 ∧ Free p7 ∧ Free p8 ∧ Free p9 ∧ Free p10 ∧ turnS (tupG [nameG 6, nameG 4]) wi (.tuple [.int (j : Nat), b]) (lv fs fn many o3 o4 (some (.val L)) o6 o7 o8 o9 o10) = .ok .nx (lv fs fn many o3 p4 (some (.val L)) p6 p7 p8 p9 p10) := by
  obtain ⟨S, e, rfl, hS, lS, hf⟩ := hb
  have e1 := why_ok hL hM hf
  have nn : isnotD .none .none = some (.d (.bool false)) := rfl
  refine ⟨some (.val (.tuple [l, .list S, e])), some (.val (.int (j : Nat))), some (.val l), some (.val (.list S)), some (.val e), some (.val .none), .inr ⟨_, rfl⟩, .inr ⟨_, rfl⟩, .inr ⟨_, rfl⟩, .inr ⟨_, rfl⟩, .inr ⟨_, rfl⟩, .inr ⟨_, rfl⟩, ?_⟩
  unfold wi lv
  simp_all_arith [nameO_free h6, nameO_free h4, nameO_free h7, nameO_free h8, nameO_free h9, asgO_free h10, e1, nn]
theorem loop_i (hL : ∀ l ∈ labels, notinDX l L = some (.d (.bool false))) (hM : ∀ f ps, .tuple [f, .list ps] ∈ K → notinDX f many = some (.d (.bool false)) ∧ ixD2 many f = some (.d (.int ps.length))) : ∀ (ls bs : List PyData) (j : Nat) (o4 o6 o7 o8 o9 o10 : Option Slot), Rows labels K ls bs → Free o4 → Free o6 → Free o7 → Free o8 → Free o9 → Free o10 →
    ∃ p4 p6 p7 p8 p9 p10, Free p4 ∧ Free p6 ∧ Free p7 ∧ Free p8 ∧ Free p9 ∧ Free p10 ∧ forGo (turnS (tupG [nameG 6, nameG 4]) wi) (enumD j bs) (lv fs fn many o3 o4 (some (.val L)) o6 o7 o8 o9 o10) = .ok .nx (lv fs fn many o3 p4 (some (.val L)) p6 p7 p8 p9 p10)
  | _, _, j, o4, o6, o7, o8, o9, o10, .nil, h4, h6, h7, h8, h9, h10 => ⟨_, _, _, _, _, _, h4, h6, h7, h8, h9, h10, rfl⟩
  | _, _, j, o4, o6, o7, o8, o9, o10, .cons (b := b) (ls := ls) (bs := bs) hb hr, h4, h6, h7, h8, h9, h10 => by
    obtain ⟨p4, p6, p7, p8, p9, p10, q4, q6, q7, q8, q9, q10, e1⟩ := turn_i (fs := fs) (fn := fn) (o3 := o3) hL hM hb j h4 h6 h7 h8 h9 h10
    obtain ⟨r4, r6, r7, r8, r9, r10, s4, s6, s7, s8, s9, s10, e2⟩ := loop_i hL hM ls bs (j + 1) p4 p6 p7 p8 p9 p10 hr q4 q6 q7 q8 q9 q10
    refine ⟨r4, r6, r7, r8, r9, r10, s4, s6, s7, s8, s9, s10, ?_⟩
    rw [show enumD j (b :: bs) = .tuple [.int (j : Nat), b] :: enumD (j + 1) bs from rfl, z_forGo, e1, z_forN_nx, e2]
theorem LD_in {ls bs : List PyData} (h : Rows labels K ls bs) (ht : ∀ x ∈ ls, x ∈ texts) (nd : ls.Nodup) : ∀ l ∈ ls, notinDX l (LD bs) = some (.d (.bool false)) := by
  obtain ⟨k1, k2⟩ := h.keys ht
  intro l hl
  rw [← k1] at hl
  obtain ⟨b, hb, rfl⟩ := List.mem_map.mp hl
  unfold LD
  refine notin_mk (v := .bool true) ?_ (List.mem_map.mpr ⟨b, hb, rfl⟩)
  rw [List.map_map]
  exact nodup_keys (k1 ▸ nd)
/-- one function -/
theorem turn_e (ht' : ∀ e ∈ K, Sig e) (hM : ∀ f ps, .tuple [f, .list ps] ∈ K → notinDX f many = some (.d (.bool false)) ∧ ixD2 many f = some (.d (.int ps.length))) {k f : PyData} (hf : Fun K k f) (j : Nat) {o1 : Option Slot} {o5 : Option Slot} (h1 : Free o1) (h3 : Free o3) (h4 : Free o4) (h5 : Free o5) (h6 : Free o6) (h7 : Free o7) (h8 : Free o8) (h9 : Free o9) (h10 : Free o10) :
    ∃ p1 p3 p4 p5 p6 p7 p8 p9 p10, Free p1 ∧ Free p3 ∧ Free p4 ∧ Free p5 ∧ Free p6 ∧ Free p7 ∧ Free p8 ∧ Free p9 ∧ Free p10 ∧ turnS (tupG [nameG 3, nameG 1]) we (.tuple [.int (j : Nat), f]) [some (.val (.list fs)), o1, some (.val many), o3, o4, o5, o6, o7, o8, o9, o10] = .ok .nx [some (.val (.list fs)), p1, some (.val many), p3, p4, p5, p6, p7, p8, p9, p10] := by
  obtain ⟨nm, ps, labels, bs, rfl, rfl, nd, ne, hl, lL, hr⟩ := hf
  have r1 := rows_dict (fs := fs) (nm := nm) (x := .list ps) (many := many) (o3 := some (.val (.int (j : Nat)))) (o6 := o6) (o7 := o7) (o8 := o8) (o9 := o9) (o10 := o10) hr hl nd (by rw [hr.len]; exact lL) h4 h5
  obtain ⟨p4, p6, p7, p8, p9, p10, q4, q6, q7, q8, q9, q10, e2⟩ := loop_i (fs := fs) (fn := .tuple [nm, .list ps, .list bs]) (o3 := some (.val (.int (j : Nat)))) (LD_in hr hl nd) hM labels bs 0 o4 o6 o7 o8 o9 o10 hr h4 h6 h7 h8 h9 h10
  refine ⟨some (.val (.tuple [nm, .list ps, .list bs])), some (.val (.int (j : Nat))), p4, some (.val (LD bs)), p6, p7, p8, p9, p10, .inr ⟨_, rfl⟩, .inr ⟨_, rfl⟩, q4, .inr ⟨_, rfl⟩, q6, q7, q8, q9, q10, ?_⟩
  rw [we_eq]
  unfold lv at r1 e2
  simp_all_arith [nameO_free h3, nameO_free h1, r1, e2]
theorem loop_e (ht' : ∀ e ∈ K, Sig e) (hM : ∀ f ps, .tuple [f, .list ps] ∈ K → notinDX f many = some (.d (.bool false)) ∧ ixD2 many f = some (.d (.int ps.length))) : ∀ (kl fl : List PyData) (j : Nat) (o1 o3 o4 o5 o6 o7 o8 o9 o10 : Option Slot), Funs K kl fl → Free o1 → Free o3 → Free o4 → Free o5 → Free o6 → Free o7 → Free o8 → Free o9 → Free o10 →
    ∃ p1 p3 p4 p5 p6 p7 p8 p9 p10, forGo (turnS (tupG [nameG 3, nameG 1]) we) (enumD j fl) [some (.val (.list fs)), o1, some (.val many), o3, o4, o5, o6, o7, o8, o9, o10] = .ok .nx [some (.val (.list fs)), p1, some (.val many), p3, p4, p5, p6, p7, p8, p9, p10]
  | _, _, j, _, _, _, _, _, _, _, _, _, .nil, _, _, _, _, _, _, _, _, _ => ⟨_, _, _, _, _, _, _, _, _, rfl⟩
  | _, _, j, _, _, _, _, _, _, _, _, _, .cons (f := f) (ks := kl) (fs := fl) hf hr, h1, h3, h4, h5, h6, h7, h8, h9, h10 => by
    obtain ⟨_, _, _, _, _, _, _, _, _, q1, q3, q4, q5, q6, q7, q8, q9, q10, e1⟩ := turn_e (fs := fs) ht' hM hf j h1 h3 h4 h5 h6 h7 h8 h9 h10
    obtain ⟨r1, r3, r4, r5, r6, r7, r8, r9, r10, e2⟩ := loop_e ht' hM kl fl (j + 1) _ _ _ _ _ _ _ _ _ hr q1 q3 q4 q5 q6 q7 q8 q9 q10
    refine ⟨r1, r3, r4, r5, r6, r7, r8, r9, r10, ?_⟩
    rw [show enumD j (f :: fl) = .tuple [.int (j : Nat), f] :: enumD (j + 1) fl from rfl, z_forGo, e1, z_forN_nx, e2]
end
end Pi.K03


set_option linter.all false
set_option maxRecDepth 100000
set_option maxHeartbeats 1600000
set_option autoImplicit false
namespace Pi.K03
open PySem PySem.Spec PyProof.Rows L2
section
variable {K nms : List PyData}
def lenOf : PyData → PyData
  | .tuple (_ :: .list ps :: _) => .int ps.length
  | _ => .none
def MD (fs : List PyData) : PyData := .dict (mkD (fs.map fun b => (keyOf b, lenOf b)))
theorem Funs.keys : ∀ {nl kl fl : List PyData}, Names nl kl → Funs K kl fl → (∀ x ∈ nl, x ∈ texts) → fl.map (fun b => PyData.str (keyOf b)) = nl ∧ (∀ b ∈ fl, ∃ ps r, b = .tuple (.str (keyOf b) :: .list ps :: r)) ∧ ∀ f ps, .tuple [f, .list ps] ∈ kl → ∃ b ∈ fl, .str (keyOf b) = f ∧ lenOf b = .int ps.length
  | _, _, _, .nil, .nil, _ => ⟨rfl, (by intro b h; cases h), (by intro f ps h; cases h)⟩
  | _, _, _, .cons (nm := nm) (ps := ps) a1 a2 a3 hn, .cons (f := f) hf hr, ht => by
    obtain ⟨i1, i2, i3⟩ := Funs.keys hn hr fun x hx => ht x (List.mem_cons_of_mem _ hx)
    obtain ⟨s, rfl, _⟩ := texts_T nm (ht nm List.mem_cons_self)
    obtain ⟨nm', ps', labels, bs, e, rfl, _⟩ := hf
    cases e
    refine ⟨by rw [List.map_cons, i1]; rfl, fun b hb => ?_, fun g qs m => ?_⟩
    · rcases List.mem_cons.mp hb with rfl | hb
      · exact ⟨_, _, rfl⟩
      · exact i2 b hb
    · rcases List.mem_cons.mp m with e | m
      · cases e
        exact ⟨_, List.mem_cons_self, rfl, rfl⟩
      · obtain ⟨b, hb, h1, h2⟩ := i3 g qs m
        exact ⟨b, List.mem_cons_of_mem _ hb, h1, h2⟩
theorem MD_in (hN : Names nms K) (ht : ∀ x ∈ nms, x ∈ texts) (nd : nms.Nodup) {fs : List PyData} (hf : Funs K K fs) : ∀ f ps, .tuple [f, .list ps] ∈ K → notinDX f (MD fs) = some (.d (.bool false)) ∧ ixD2 (MD fs) f = some (.d (.int ps.length)) := by
  obtain ⟨k1, k2, k3⟩ := hf.keys hN ht
  have nk := nodup_keys (k1 ▸ nd)
  intro f ps m
  obtain ⟨b, hb, rfl, e⟩ := k3 f ps m
  have mem : (keyOf b, lenOf b) ∈ fs.map fun b => (keyOf b, lenOf b) := List.mem_map.mpr ⟨b, hb, rfl⟩
  have nk2 : ((fs.map fun b => (keyOf b, lenOf b)).map (·.1)).Nodup := by rw [List.map_map]; exact nk
  refine ⟨notin_mk nk2 mem, ?_⟩
  rw [← e]
  exact ix_mk nk2 mem
theorem many_dict (hN : Names nms K) (ht : ∀ x ∈ nms, x ∈ texts) (nd : nms.Nodup) (l4 : nms.length ≤ 4) {fs : List PyData} (hf : Funs K K fs) :
    dz1 [some (.val (.list fs)), none, none, none, none, none, none, none, none, none, none] = .ok .nx [some (.val (.list fs)), none, some (.val (MD fs)), none, none, none, none, none, none, none, none] := by
  obtain ⟨k1, k2, k3⟩ := hf.keys hN ht
  have lf : fs.length ≤ 4 := by
    have := congrArg List.length k1
    rw [List.length_map] at this
    omega
  have dg := dict_go (j := 1) (ek := binE ixD2 (slotE 1) (cstE (.int 0))) (ev := bltE lenD (consA (binE ixD2 (slotE 1) (cstE (.int 1))) nilA)) (env := [some (.val (.list fs)), none, none, none, none, none, none, none, none, none, none]) (key := keyOf) (vl := lenOf) rfl fs [] (fun b hb => by
    obtain ⟨ps, r, e⟩ := k2 b hb
    refine ⟨?_, .d (lenOf b), ?_, rfl⟩
    · generalize keyOf b = s at e ⊢
      subst e
      simp_all_arith []
    · have el : lenOf b = .int ps.length := by rw [e]; rfl
      rw [el]
      generalize keyOf b = s at e
      subst e
      simp_all_arith []) (by simpa using nodup_keys (k1 ▸ nd)) (by simp; omega)
  unfold dz1
  unfold mkD at dg
  rw [List.map_nil, List.nil_append] at dg
  simp_all_arith [z_dc, z_dc_k]
  rw [dg]
  simp_all_arith [z_dcFin]
  rfl
theorem ends_ok (hN : Names nms K) (ht : ∀ x ∈ nms, x ∈ texts) (nd : nms.Nodup) (l4 : nms.length ≤ 4) {fs : List PyData} (hf : Funs K K fs) : f_first_wrong_end [.d (.list fs)] = .ret (.d .none) [] := by
  have e1 := many_dict hN ht nd l4 hf
  obtain ⟨p1, p3, p4, p5, p6, p7, p8, p9, p10, e2⟩ := loop_e (fs := fs) (hN.sig ht) (MD_in hN ht nd hf) K fs 0 none none none none none none none none none hf (.inl rfl) (.inl rfl) (.inl rfl) (.inl rfl) (.inl rfl) (.inl rfl) (.inl rfl) (.inl rfl) (.inl rfl)
  unfold f_first_wrong_end
  rw [fe_split, dz2_eq]
  simp_all_arith [e1, e2]
  unfold dz3
  simp_all_arith []
theorem Funs.len {kl fl : List PyData} (h : Funs K kl fl) : fl.length = kl.length := by
  induction h with
  | nil => rfl
  | cons _ _ ih => rw [List.length_cons, List.length_cons, ih]
/-- a drawn program is one -/
theorem program_ok {p : PyData} (h : Prog p) : f_is_program [.d p] = .ret (.d (.bool true)) [] := by
  obtain ⟨nms, K, fs, rfl, nd, ht, ne, l4, hN, hf⟩ := h
  have lf : fs.length = nms.length := by rw [hf.len, hN.len]
  have l0 : 0 < nms.length := List.length_pos_iff.mpr ne
  have t2 : f_is_tuple_of [.d (.tuple [.str "program", .list fs]), .d (.int 2)] = .ret (.d (.bool true)) [] := by kernel_rfl
  have q1 : neD (.str "program") (.str "program") = some (.d (.bool false)) := by kernel_rfl
  have q2 : f_is_list_of [.d (.list fs), .d (.int 1), .d (.int 8)] = .ret (.d (.bool true)) [] := by
    have i1 : isiD "list" (.list fs) = some (.d (.bool true)) := by kernel_rfl
    have c1 : ((1 : Int) ≤ (fs.length : Int)) = True := eq_true (by omega)
    have c2 : ((fs.length : Int) ≤ 8) = True := eq_true (by omega)
    unfold f_is_list_of m_is_list_of
    simp_all_arith [i1, c1, c2]
  have g : d_MOST_FUNCTIONS = .int 8 := rfl
  have e1 := form_ok hN ht nd l4 hf
  have e2 := ends_ok hN ht nd l4 hf
  have i1 : isD .none .none = some (.d (.bool true)) := rfl
  have fw : f_first_wrong [.d (.tuple [.str "program", .list fs])] = .ret (.d .none) [] := by
    unfold f_first_wrong m_first_wrong
    simp_all_arith [t2, q1, q2, g, e1, e2, i1]
  unfold f_is_program m_is_program
  simp_all_arith [fw, i1]
end
end Pi.K03


set_option linter.all false
set_option maxRecDepth 100000
set_option maxHeartbeats 1600000
set_option autoImplicit false
namespace Pi.K03
open PySem PySem.Spec PyProof.Rows L2
theorem seed_ok (ks : List Int) : ∃ s : Int, f__law_cell [.d (scriptD ks), .d (.int 0)] = .ret (.d (.int s)) [] := by
  unfold f__law_cell m__law_cell scriptD
  cases ks with
  | nil =>
    have c : cutD ([] : List PyData) none (some 1) = [] := rfl
    have sm : sumD [.list []] = some (.d (.int 0)) := rfl
    rw [List.map_nil]
    simp_all_arith [c, sm]
    exact ⟨_, rfl⟩
  | cons k ks =>
    have c : ((0 : Int) < ((ks.map PyData.int).length + 1 : Nat)) = True := eq_true (by omega)
    rw [List.map_cons]
    simp_all_arith [c]
    exact ⟨_, rfl⟩
theorem gen_ok (ks : List Int) : ∃ g, f__law_generator [.d (scriptD ks), .d (.int 0)] = .ret (.new g) [] ∧ Gen 0 g := by
  obtain ⟨s, e⟩ := seed_ok ks
  have p1 : powD (.int 10) (.int 18) = some (.d (.int 1000000000000000000)) := by
    show (if (0 : Int) ≤ 18 ∧ (Builtin.Int.intBits 10 : Int) * 18 ≤ 2 ^ 27 then some (Val.d (.int ((10 : Int) ^ (18 : Int).toNat))) else none) = _
    rw [if_pos (by decide +kernel)]
    rfl
  have p2 : ∃ N : Int, 0 < N ∧ (do let a ← powD (.int 10) (.int 60); match a with | .d x => powD x (.int 10) | _ => none) = some (.d (.int N)) := ⟨(10 ^ 60) ^ 10, by decide +kernel, by kernel_rfl⟩
  have p3 : powD (.int 10) (.int 60) = some (.d (.int ((10 : Int) ^ 60))) := by kernel_rfl
  have p4 : powD (.int ((10 : Int) ^ 60)) (.int 10) = some (.d (.int (((10 : Int) ^ 60) ^ 10))) := by kernel_rfl
  have pos : (0 < ((10 : Int) ^ 60) ^ 10) = True := eq_true (by decide +kernel)
  generalize ((10 : Int) ^ 60) ^ 10 = N at p4 pos
  generalize (10 : Int) ^ 60 = M at p3 p4
  unfold f__law_generator m__law_generator
  simp_all_arith [e, p1, p3, p4, pos, z_maxI]
  refine ⟨_, rfl, _, _, _, rfl, Int.emod_nonneg _ (by have := of_eq_true pos; omega), by decide, by decide⟩
end Pi.K03


set_option linter.all false
set_option maxRecDepth 100000
set_option maxHeartbeats 1600000
set_option autoImplicit false
namespace Pi.K03
open PySem PySem.Spec PyProof.Rows L2
/-- a for and what it piles up -/
theorem for_acc {α : Type} {b : PyData → PEnv → R Flow} {N c : Nat} (E : Nat → List α → PEnv → Prop) (f : PyData → List α) :
    ∀ (xs : List PyData) (n : Nat) (acc : List α) (env : PEnv),
    (∀ x ∈ xs, ∀ n acc env, n + c ≤ N → E n acc env → ∃ env', b x env = .ok .nx env' ∧ E (n + c) (acc ++ f x) env') →
    n + c * xs.length ≤ N → E n acc env → ∃ env', forGo b xs env = .ok .nx env' ∧ E (n + c * xs.length) (acc ++ xs.flatMap f) env'
  | [], n, acc, env, _, _, h => ⟨env, rfl, by simpa using h⟩
  | x :: xs, n, acc, env, hb, hn, h => by
    rw [List.length_cons, Nat.mul_succ] at hn ⊢
    obtain ⟨e1, q1, h1⟩ := hb x List.mem_cons_self n acc env (by omega) h
    obtain ⟨e2, q2, h2⟩ := for_acc E f xs (n + c) (acc ++ f x) e1 (fun y hy => hb y (List.mem_cons_of_mem _ hy)) (by omega) h1
    refine ⟨e2, ?_, ?_⟩
    · rw [z_forGo, q1, z_forN_nx, q2]
    · rw [List.flatMap_cons, ← List.append_assoc, show n + (c * xs.length + c) = n + c + c * xs.length by omega]; exact h2
/-- [f(x) for x in xs if p(x)] -/
theorem lc_go {j : Nat} {t : PEnv → R Bool} {e : PEnv → R Val} {env : PEnv} {p : PyData → Bool} {f : PyData → PyData} (hj : env[j]? = some none) : ∀ (xs acc : List PyData),
    (∀ x ∈ xs, t (env.set j (some (.val x))) = .ok (p x) (env.set j (some (.val x))) ∧ (p x = true → ∃ r, e (env.set j (some (.val x))) = .ok r (env.set j (some (.val x))) ∧ r.frz = .d (f x))) →
    acc.length + xs.length < 1000000 → lcGo [j] (nameG j) t e xs env acc = .ok (acc ++ (xs.filter p).map f) env
  | [], acc, _, _ => by rw [z_lcGo_nil, List.filter_nil, List.map_nil, List.append_nil]
  | x :: xs, acc, h, hl => by
    obtain ⟨h1, h2⟩ := h x List.mem_cons_self
    rw [List.length_cons] at hl
    have back : wipeE (env.set j (some (.val x))) [j] = env := by
      show (env.set j (some (.val x))).set j none = env
      rw [List.set_set]
      exact set_same hj
    have ih := fun a (ha : a.length + xs.length < 1000000) => lc_go (f := f) hj xs a (fun y hy => h y (List.mem_cons_of_mem _ hy)) ha
    rw [z_lcGo, z_nameG, hj, z_nameO_n, z_lcG, h1]
    cases hp : p x with
    | false =>
      rw [z_lcT_f, back, ih acc (by omega), List.filter_cons_of_neg (by rw [hp]; decide)]
    | true =>
      obtain ⟨r, h3, h4⟩ := h2 hp
      have fl : acc.length < big := by show _ < 1000000; omega
      rw [z_lcT_t, h3]
      show (match r.frz with
        | .d y => if acc.length < big then lcGo [j] (nameG j) t e xs (wipeE (env.set j (some (.val x))) [j]) (acc ++ [y]) else .stuck
        | _ => .stuck) = _
      rw [h4]
      dsimp only
      rw [if_pos fl, back, ih _ (by rw [List.length_append]; simp; omega), List.filter_cons_of_pos hp, List.map_cons, List.append_assoc]
      rfl
/-- what a function's or a block's parts are -/
def part : PyData → Nat → PyData
  | .tuple xs, i => xs.getD i .none
  | .list xs, i => xs.getD i .none
  | _, _ => .none
def its : PyData → List PyData
  | .tuple xs => xs
  | .list xs => xs
  | _ => []
/-- a block's edges: the way, and where it leads; fl tells a function's first label -/
def outs (fl : PyData → PyData) (name : PyData) : PyData → List (PyData × PyData)
  | .tuple [.str k, l] => if k = "go" then [(.str "go", .tuple [name, l])] else [(.str k, .none)]
  | .tuple [_, _, l, m] => [(.str "yes", .tuple [name, l]), (.str "no", .tuple [name, m])]
  | .tuple [_, _, f, _, l] => [(.str "call", .tuple [f, fl f]), (.str "value", .tuple [name, l]), (.str "fault", .none)]
  | .tuple [_, _, f, _, l, _, m] => [(.str "call", .tuple [f, fl f]), (.str "value", .tuple [name, l]), (.str "fault", .tuple [name, m])]
  | _ => []
def firstOf (f : PyData) : PyData := part ((its (part f 2)).getD 0 .none) 0
/-- the first label of the function of that name -/
def firstO : Option PyData → PyData
  | some f => firstOf f
  | none => .none
def firstIn (fs : List PyData) : PyData → PyData
  | .str s => firstO (fs.find? fun f => decide (keyOf f = s))
  | _ => .none
def pairsB (fl : PyData → PyData) (f b : PyData) : List (PyData × PyData) := (outs fl (part f 0) (part b 2)).map fun q => (.tuple [part f 0, part b 0, q.1], q.2)
def pairsF (fl : PyData → PyData) (f : PyData) : List (PyData × PyData) := (its (part f 2)).flatMap (pairsB fl f)
def pairs (fs : List PyData) : List (PyData × PyData) := fs.flatMap (pairsF (firstIn fs))
/-- what is known of a block, of a function, of all -/
def GoodB (labels K : List PyData) (b : PyData) : Prop := ∃ l S e, b = .tuple [l, .list S, e] ∧ l ∈ texts ∧ (∀ s ∈ S, Step s) ∧ S.length ≤ 4 ∧ Fin labels K e
def GoodF (K : List PyData) (f : PyData) : Prop := ∃ nm ps labels bs, f = .tuple [nm, .list ps, .list bs] ∧ nm ∈ texts ∧ (∀ p ∈ ps, p ∈ params) ∧ ps.length ≤ 2 ∧ bs ≠ [] ∧ bs.length ≤ 8 ∧ (bs.map keyOf).Nodup ∧ (∀ l ∈ labels, l ∈ texts) ∧ ∀ b ∈ bs, GoodB labels K b
structure Good (K fs : List PyData) : Prop where
  fn : ∀ f ∈ fs, GoodF K f
  nd : (fs.map keyOf).Nodup
  ne : fs ≠ []
  len : fs.length ≤ 4
  sig : ∀ e ∈ K, Sig e
  call : ∀ g ps, .tuple [g, .list ps] ∈ K → ∃ f ∈ fs, .str (keyOf f) = g
theorem Rows.good {labels K : List PyData} {ls bs : List PyData} (h : Rows labels K ls bs) (ht : ∀ x ∈ ls, x ∈ texts) : ∀ b ∈ bs, GoodB labels K b := by
  induction h with
  | nil => intro b hb; cases hb
  | cons hb hr ih =>
    intro b m
    rcases List.mem_cons.mp m with rfl | m
    · obtain ⟨S, e, rfl, h1, h2, h3⟩ := hb
      exact ⟨_, S, e, rfl, ht _ List.mem_cons_self, h1, h2, h3⟩
    · exact ih (fun x hx => ht x (List.mem_cons_of_mem _ hx)) b m
theorem Funs.mem {K kl fl : List PyData} (h : Funs K kl fl) {f : PyData} (m : f ∈ fl) : ∃ k ∈ kl, Fun K k f := by
  induction h with
  | nil => cases m
  | cons h1 h2 ih =>
    rcases List.mem_cons.mp m with rfl | m
    · exact ⟨_, List.mem_cons_self, h1⟩
    · obtain ⟨k, hk, q⟩ := ih m
      exact ⟨k, List.mem_cons_of_mem _ hk, q⟩
theorem Prog.good {p : PyData} (h : Prog p) : ∃ K fs, p = .tuple [.str "program", .list fs] ∧ Good K fs := by
  obtain ⟨nms, K, fs, rfl, nd, ht, ne, l4, hN, hf⟩ := h
  obtain ⟨k1, k2, k3⟩ := hf.keys hN ht
  have lf : fs.length = nms.length := by rw [hf.len, hN.len]
  refine ⟨K, fs, rfl, fun f m => ?_, nodup_keys (k1 ▸ nd), ?_, by omega, hN.sig ht, fun g ps m => ?_⟩
  · obtain ⟨k, hk, nm, ps, labels, bs, rfl, rfl, nd, ne, hl, lL, hr⟩ := hf.mem m
    obtain ⟨m1, m2, m3, m4⟩ := hN.mem hk
    have lb := hr.len
    refine ⟨nm, ps, labels, bs, rfl, ht _ m1, m2, m3, fun z => ?_, by omega, nodup_keys ((hr.keys hl).1 ▸ nd), hl, hr.good hl⟩
    rw [z] at lb
    exact ne (List.length_eq_zero_iff.mp lb.symm)
  · intro z
    rw [z] at lf
    exact ne (List.length_eq_zero_iff.mp lf.symm)
  · obtain ⟨b, hb, h1, _⟩ := k3 g ps m
    exact ⟨b, hb, h1⟩
end Pi.K03


set_option linter.all false
set_option maxRecDepth 100000
set_option maxHeartbeats 1600000
set_option autoImplicit false
namespace Pi.K03
open PySem PySem.Spec PyProof.Rows L2
def eo2 : PEnv → R Flow := forS (seqI (unE (tabIx t_WAYS) (binE ixD2 (slotE 7) (cstE (.int 0))))) (tupG [nameG 8, nameG 9]) (exprS (appE 1 (consA (tupE (consA (slotE 2) (consA (slotE 5) (consA (slotE 8) (nilA))))) (nilA))))
def eo1 : PEnv → R Flow := forS (seqI (slotE 4)) (tupG [nameG 5, nameG 6, nameG 7]) eo2
theorem eo_split : m_edges_of = seqS (asgS 1 true (lstE (nilA))) (seqS (forS (seqI (binE ixD2 (slotE 0) (cstE (.int 1)))) (tupG [nameG 2, nameG 3, nameG 4]) eo1) (retS (slotE 1))) := rfl
section
variable {fl : PyData → PyData} {name a l m x y f vs : PyData}
theorem o_ret : outs fl name (.tuple [.str "return", a]) = [(.str "return", .none)] := by kernel_rfl
theorem o_rais : outs fl name (.tuple [.str "raise", a]) = [(.str "raise", .none)] := by kernel_rfl
theorem o_go : outs fl name (.tuple [.str "go", l]) = [(.str "go", .tuple [name, l])] := by kernel_rfl
theorem o_test : outs fl name (.tuple [.str "test", a, l, m]) = [(.str "yes", .tuple [name, l]), (.str "no", .tuple [name, m])] := rfl
theorem o_call : outs fl name (.tuple [.str "call", x, f, vs, l]) = [(.str "call", .tuple [f, fl f]), (.str "value", .tuple [name, l]), (.str "fault", .none)] := rfl
theorem o_try : outs fl name (.tuple [.str "try", x, f, vs, l, y, m]) = [(.str "call", .tuple [f, fl f]), (.str "value", .tuple [name, l]), (.str "fault", .tuple [name, m])] := rfl
theorem w_ret : tabIx t_WAYS (.str "return") = some (.d (.tuple [.tuple [.str "return", .none]])) := by kernel_rfl
theorem w_rais : tabIx t_WAYS (.str "raise") = some (.d (.tuple [.tuple [.str "raise", .none]])) := by kernel_rfl
theorem w_go : tabIx t_WAYS (.str "go") = some (.d (.tuple [.tuple [.str "go", .int 1]])) := by kernel_rfl
theorem w_test : tabIx t_WAYS (.str "test") = some (.d (.tuple [.tuple [.str "yes", .int 2], .tuple [.str "no", .int 3]])) := by kernel_rfl
theorem w_call : tabIx t_WAYS (.str "call") = some (.d (.tuple [.tuple [.str "call", .none], .tuple [.str "value", .int 4], .tuple [.str "fault", .none]])) := by kernel_rfl
theorem w_try : tabIx t_WAYS (.str "try") = some (.d (.tuple [.tuple [.str "call", .none], .tuple [.str "value", .int 4], .tuple [.str "fault", .int 6]])) := by kernel_rfl
end
section
variable {labels K : List PyData} {p nm b : PyData} {ps bs : List PyData}
def Eb (p nm : PyData) (ps bs : List PyData) (n : Nat) (acc : List PyData) (env : PEnv) : Prop := acc.length ≤ n ∧ ∃ o5 o6 o7 o8 o9, Free o5 ∧ Free o6 ∧ Free o7 ∧ Free o8 ∧ Free o9 ∧ env = [some (.val p), some (.lst acc), some (.val nm), some (.val (.list ps)), some (.val (.list bs)), o5, o6, o7, o8, o9]
theorem turn_eo (fl : PyData → PyData) (hb : GoodB labels K b) : ∀ (n : Nat) (acc : List PyData) (env : PEnv), n + 3 ≤ 1000 → Eb p nm ps bs n acc env → ∃ env', turnS (tupG [nameG 5, nameG 6, nameG 7]) eo2 b env = .ok .nx env' ∧ Eb p nm ps bs (n + 3) (acc ++ (pairsB fl (.tuple [nm, .list ps, .list bs]) b).map (·.1)) env' := by
  intro n acc env hn ⟨la, o5, o6, o7, o8, o9, h5, h6, h7, h8, h9, he⟩
  subst he
  obtain ⟨l, S, e, rfl, hl, hS, lS, hf⟩ := hb
  have c1 : (acc.length < big) = True := eq_true (by show _ < 1000000; omega)
  have c2 : ∀ x, ((acc ++ [x]).length < big) = True := fun x => eq_true (by show _ < 1000000; simp; omega)
  have c3 : ∀ x y, ((acc ++ [x, y]).length < big) = True := fun x y => eq_true (by show _ < 1000000; simp; omega)
  have pb : ∀ es, pairsB fl (.tuple [nm, .list ps, .list bs]) (.tuple [l, .list S, es]) = (outs fl nm es).map fun q => (.tuple [nm, l, q.1], q.2) := fun _ => rfl
  have fr : ∀ x : PyData, Free (some (.val x)) := fun x => .inr ⟨x, rfl⟩
  unfold eo2
  rw [pb]
  cases hf with
  | ret ha =>
    rw [o_ret]
    simp_all_arith [nameO_free h5, nameO_free h6, nameO_free h7, nameO_free h8, nameO_free h9, w_ret, c1]
    exact ⟨_, rfl, by simp; omega, _, _, _, _, _, fr _, fr _, fr _, fr _, fr _, rfl⟩
  | rais ha =>
    rw [o_rais]
    simp_all_arith [nameO_free h5, nameO_free h6, nameO_free h7, nameO_free h8, nameO_free h9, w_rais, c1]
    exact ⟨_, rfl, by simp; omega, _, _, _, _, _, fr _, fr _, fr _, fr _, fr _, rfl⟩
  | go ha =>
    rw [o_go]
    simp_all_arith [nameO_free h5, nameO_free h6, nameO_free h7, nameO_free h8, nameO_free h9, w_go, c1]
    exact ⟨_, rfl, by simp; omega, _, _, _, _, _, fr _, fr _, fr _, fr _, fr _, rfl⟩
  | test h1 h2 h3 =>
    rw [o_test]
    simp_all_arith [nameO_free h5, nameO_free h6, nameO_free h7, nameO_free h8, nameO_free h9, w_test, c1, c2, List.append_assoc]
    exact ⟨_, rfl, by simp; omega, _, _, _, _, _, fr _, fr _, fr _, fr _, fr _, rfl⟩
  | call h1 h2 h3 h4 h5' =>
    rw [o_call]
    simp_all_arith [nameO_free h5, nameO_free h6, nameO_free h7, nameO_free h8, nameO_free h9, w_call, c1, c2, c3, List.append_assoc]
    exact ⟨_, rfl, by simp; omega, _, _, _, _, _, fr _, fr _, fr _, fr _, fr _, rfl⟩
  | try_ h1 h2 h3 h4 h5' h6' h7' =>
    rw [o_try]
    simp_all_arith [nameO_free h5, nameO_free h6, nameO_free h7, nameO_free h8, nameO_free h9, w_try, c1, c2, c3, List.append_assoc]
    exact ⟨_, rfl, by simp; omega, _, _, _, _, _, fr _, fr _, fr _, fr _, fr _, rfl⟩
def Ef (p : PyData) (n : Nat) (acc : List PyData) (env : PEnv) : Prop := acc.length ≤ n ∧ ∃ o2 o3 o4 o5 o6 o7 o8 o9, Free o2 ∧ Free o3 ∧ Free o4 ∧ Free o5 ∧ Free o6 ∧ Free o7 ∧ Free o8 ∧ Free o9 ∧ env = [some (.val p), some (.lst acc), o2, o3, o4, o5, o6, o7, o8, o9]
theorem turn_ef (fl : PyData → PyData) {f : PyData} (hf : GoodF K f) : ∀ (n : Nat) (acc : List PyData) (env : PEnv), n + 24 ≤ 900 → Ef p n acc env → ∃ env', turnS (tupG [nameG 2, nameG 3, nameG 4]) eo1 f env = .ok .nx env' ∧ Ef p (n + 24) (acc ++ (pairsF fl f).map (·.1)) env' := by
  intro n acc env hn ⟨la, o2, o3, o4, o5, o6, o7, o8, o9, h2, h3, h4, h5, h6, h7, h8, h9, he⟩
  subst he
  obtain ⟨nm, ps, labels, bs, rfl, hnm, hps, lps, ne, lb, nd, hl, hbs⟩ := hf
  have fr : ∀ x : PyData, Free (some (.val x)) := fun x => .inr ⟨x, rfl⟩
  obtain ⟨e1, q1, l1, p5, p6, p7, p8, p9, r5, r6, r7, r8, r9, rfl⟩ := for_acc (N := 1000) (c := 3) (Eb p nm ps bs) (fun b => (pairsB fl (.tuple [nm, .list ps, .list bs]) b).map (·.1)) bs n acc _ (fun b hb => turn_eo fl (hbs b hb)) (by omega) ⟨la, o5, o6, o7, o8, o9, h5, h6, h7, h8, h9, rfl⟩
  have e2 : acc ++ (pairsF fl (.tuple [nm, .list ps, .list bs])).map (·.1) = acc ++ bs.flatMap fun b => (pairsB fl (.tuple [nm, .list ps, .list bs]) b).map (·.1) := by
    show acc ++ (bs.flatMap (pairsB fl (.tuple [nm, .list ps, .list bs]))).map (·.1) = _
    rw [List.map_flatMap]
  rw [e2]
  unfold eo1
  simp_all_arith [nameO_free h2, nameO_free h3, nameO_free h4, q1]
  exact ⟨_, rfl, by omega, _, _, _, _, _, _, _, _, fr _, fr _, fr _, r5, r6, r7, r8, r9, rfl⟩
def edgesL (fs : List PyData) : List PyData := (pairs fs).map (·.1)
theorem edges_len {fs : List PyData} (g : Good K fs) : (edgesL fs).length ≤ 96 := by
  have hp : ∀ f ∈ fs, (pairsF (firstIn fs) f).length ≤ 24 := by
    intro f hf
    obtain ⟨nm, ps, labels, bs, rfl, hnm, hps, lps, ne, lb, nd, hl, hbs⟩ := g.fn f hf
    show (bs.flatMap (pairsB (firstIn fs) (.tuple [nm, .list ps, .list bs]))).length ≤ 24
    have hq : ∀ b ∈ bs, (pairsB (firstIn fs) (.tuple [nm, .list ps, .list bs]) b).length ≤ 3 := by
      intro b hb
      obtain ⟨l, S, e, rfl, hl, hS, lS, hf⟩ := hbs b hb
      show ((outs (firstIn fs) nm e).map _).length ≤ 3
      rw [List.length_map]
      cases hf with
      | ret ha => rw [o_ret]; simp
      | rais ha => rw [o_rais]; simp
      | go ha => rw [o_go]; simp
      | test h1 h2 h3 => rw [o_test]; simp
      | call h1 h2 h3 h4 h5' => rw [o_call]; simp
      | try_ h1 h2 h3 h4 h5' h6' h7' => rw [o_try]; simp
    have key : ∀ (ys : List PyData), (∀ b ∈ ys, (pairsB (firstIn fs) (.tuple [nm, .list ps, .list bs]) b).length ≤ 3) → (ys.flatMap (pairsB (firstIn fs) (.tuple [nm, .list ps, .list bs]))).length ≤ 3 * ys.length := by
      intro ys
      induction ys with
      | nil => intro _; simp
      | cons y ys ih =>
        intro h
        have h1 := h y List.mem_cons_self
        have h2 := ih fun z hz => h z (List.mem_cons_of_mem _ hz)
        rw [List.flatMap_cons, List.length_append, List.length_cons]
        omega
    have := key bs hq
    omega
  have key : ∀ (ys : List PyData), (∀ f ∈ ys, (pairsF (firstIn fs) f).length ≤ 24) → (ys.flatMap (pairsF (firstIn fs))).length ≤ 24 * ys.length := by
    intro ys
    induction ys with
    | nil => intro _; simp
    | cons y ys ih =>
      intro h
      have h1 := h y List.mem_cons_self
      have h2 := ih fun z hz => h z (List.mem_cons_of_mem _ hz)
      rw [List.flatMap_cons, List.length_append, List.length_cons]
      omega
  have h := key fs hp
  have := g.len
  unfold edgesL pairs
  rw [List.length_map]
  omega
theorem edges_of_ok {fs : List PyData} (g : Good K fs) : f_edges_of [.d (.tuple [.str "program", .list fs])] = .ret (.new (edgesL fs)) [] := by
  have gl := g.len
  obtain ⟨e1, q1, l1, p2, p3, p4, p5, p6, p7, p8, p9, r2, r3, r4, r5, r6, r7, r8, r9, rfl⟩ := for_acc (N := 900) (c := 24) (Ef (.tuple [.str "program", .list fs])) (fun f => (pairsF (firstIn fs) f).map (·.1)) fs 0 [] _ (fun f hf => turn_ef (firstIn fs) (g.fn f hf)) (by omega) ⟨Nat.le_refl _, none, none, none, none, none, none, none, none, .inl rfl, .inl rfl, .inl rfl, .inl rfl, .inl rfl, .inl rfl, .inl rfl, .inl rfl, rfl⟩
  have e2 : edgesL fs = [] ++ fs.flatMap fun f => (pairsF (firstIn fs) f).map (·.1) := by
    unfold edgesL pairs
    rw [List.map_flatMap, List.nil_append]
  rw [e2]
  unfold f_edges_of
  rw [eo_split]
  simp_all_arith [q1]
theorem edges_ok {fs : List PyData} (g : Good K fs) (hp : f_is_program [.d (.tuple [.str "program", .list fs])] = .ret (.d (.bool true)) []) : f_edges [.d (.tuple [.str "program", .list fs])] = .ret (.new (edgesL fs)) [] := by
  have e1 := edges_of_ok g
  unfold f_edges m_edges
  simp_all_arith [hp, e1]
end
end Pi.K03


set_option linter.all false
set_option maxRecDepth 100000
set_option maxHeartbeats 1600000
set_option autoImplicit false
namespace Pi.K03
open PySem PySem.Spec PyProof.Rows L2
/-! what repr shows -/
theorem ok_app (a b : Str) : PyData.strOk (a ++ b) = (PyData.strOk a && PyData.strOk b) := by
  show (a.cps ++ b.cps).all _ = _
  rw [Array.all_append]
  rfl
theorem ok_of (x : String) : PyData.strOk (Str.ofString x) = true := by
  rw [Str.ofString_eq_toList]
  show (x.toList.map Char.toNat).toArray.all _ = true
  rw [List.all_toArray, List.all_eq_true]
  intro c hc
  obtain ⟨z, _, rfl⟩ := List.mem_map.mp hc
  have := z.valid
  have h2 : z.toNat < 0x110000 := by
    rcases this with h | ⟨_, h⟩
    · exact Nat.lt_trans h (by decide)
    · exact h
  exact decide_eq_true h2
theorem ok_join {sep : Str} (hs : PyData.strOk sep = true) : ∀ ts : List Str, (∀ t ∈ ts, PyData.strOk t = true) → PyData.strOk (Str.join sep ts) = true
  | [], _ => show PyData.strOk Str.empty = true by decide +kernel
  | [x], h => h x (by simp)
  | x :: y :: r, h => by
    have ih := ok_join hs (y :: r) fun t ht => h t (List.mem_cons_of_mem _ ht)
    show PyData.strOk (x ++ sep ++ Str.join sep (y :: r)) = true
    rw [ok_app, ok_app, ih, hs, h x (by simp)]
    rfl
theorem ok_list {ts : List Str} (h : ∀ t ∈ ts, PyData.strOk t = true) : PyData.strOk (listText ts) = true := by
  rw [listText_eq_join, ok_app, ok_app, ok_join (ok_of ", ") ts h, ok_of, ok_of]
  rfl
theorem ok_tuple {ts : List Str} (h : ∀ t ∈ ts, PyData.strOk t = true) : PyData.strOk (tupleText ts) = true := by
  unfold tupleText
  rw [ok_app, ok_app, ok_join (ok_of ", ") ts h, ok_of, ok_of]
  rfl
structure Pr (d w : Nat) (x : PyData) : Prop where
  em : emptyDicts x = true
  sw : x.showable = true
  ls : x.leavesShort 15 = true
  dp : x.depth ≤ d
  wt : x.weight ≤ w
  ok : PyData.strOk x.shown = true
structure PrA (d w : Nat) (xs : List PyData) : Prop where
  em : emptyDictsA xs = true
  sw : PyData.showableAll xs = true
  ls : PyData.leavesShortAll 15 xs = true
  dp : PyData.depthAll xs ≤ d
  wt : PyData.weightAll xs ≤ w
  ok : ∀ t ∈ PyData.shownAll xs, PyData.strOk t = true
section
variable {d w v : Nat} {x : PyData} {xs : List PyData}
theorem Pr.up {d' w' : Nat} (h : Pr d w x) (hd : d ≤ d') (hw : w ≤ w') : Pr d' w' x := ⟨h.em, h.sw, h.ls, Nat.le_trans h.dp hd, Nat.le_trans h.wt hw, h.ok⟩
theorem PrA.up {d' w' : Nat} (h : PrA d w xs) (hd : d ≤ d') (hw : w ≤ w') : PrA d' w' xs := ⟨h.em, h.sw, h.ls, Nat.le_trans h.dp hd, Nat.le_trans h.wt hw, h.ok⟩
theorem Pr.lift {k : Nat} (h : Pr 0 w x) : Pr k w x := h.up (Nat.zero_le _) (Nat.le_refl _)
theorem PrA.nil : PrA 0 0 [] := ⟨rfl, rfl, rfl, Nat.le_refl _, Nat.le_refl _, fun _ h => nomatch h⟩
theorem PrA.cons (h : Pr d w x) (g : PrA d v xs) : PrA d (w + 1 + v) (x :: xs) := by
  refine ⟨?_, ?_, ?_, Nat.max_le.mpr ⟨h.dp, g.dp⟩, ?_, fun t ht => ?_⟩
  · show (emptyDicts x && emptyDictsA xs) = true; rw [h.em, g.em]; rfl
  · show (x.showable && PyData.showableAll xs) = true; rw [h.sw, g.sw]; rfl
  · show (x.leavesShort 15 && PyData.leavesShortAll 15 xs) = true; rw [h.ls, g.ls]; rfl
  · have h1 := h.wt
    have h2 := g.wt
    show x.weight + 1 + PyData.weightAll xs ≤ _
    omega
  · rcases List.mem_cons.mp (show t ∈ x.shown :: PyData.shownAll xs from ht) with rfl | m
    · exact h.ok
    · exact g.ok t m
theorem PrA.all : ∀ {xs : List PyData}, (∀ x ∈ xs, Pr d w x) → PrA d ((w + 1) * xs.length) xs
  | [], _ => PrA.nil.up (Nat.zero_le _) (Nat.zero_le _)
  | x :: xs, h => by
    have g := PrA.all fun y hy => h y (List.mem_cons_of_mem _ hy)
    have := PrA.cons (h x List.mem_cons_self) g
    rw [List.length_cons, Nat.mul_succ]
    exact this.up (Nat.le_refl _) (by omega)
theorem PrA.list (h : PrA d w xs) : Pr (d + 1) w (.list xs) := ⟨h.em, h.sw, h.ls, Nat.succ_le_succ h.dp, h.wt, ok_list h.ok⟩
theorem PrA.tuple (h : PrA d w xs) : Pr (d + 1) w (.tuple xs) := ⟨h.em, h.sw, h.ls, Nat.succ_le_succ h.dp, h.wt, ok_tuple h.ok⟩
theorem Pr.repr (h : Pr d w x) (hd : d ≤ 100) (hw : 17 * w + 15 ≤ 1000000) : ∃ s, reprED [x] = some (.d (.str s)) ∧ PyData.strOk s = true := by
  refine ⟨x.shown, if_pos ⟨h.em, h.sw, ?_, Nat.le_trans h.dp hd⟩, h.ok⟩
  have h1 := PyData.shown_le 15 (by decide) x h.ls
  have h2 := h.wt
  have h3 : (15 + 2) * x.weight ≤ 17 * w := Nat.mul_le_mul_left 17 h2
  show _ ≤ 1000000
  omega
theorem Pr.none : Pr 0 0 .none := ⟨rfl, rfl, rfl, Nat.le_refl _, Nat.le_refl _, by decide +kernel⟩
theorem Pr.dict : Pr 1 0 (.dict []) := ⟨rfl, rfl, rfl, Nat.le_refl _, Nat.le_refl _, by decide +kernel⟩
theorem Pr.int {i : Int} (h : i.natAbs < 10 ^ 14) : Pr 0 47 (.int i) := by
  refine ⟨rfl, ?_, ?_, Nat.le_refl _, ?_, ok_of _⟩
  · show decide (i.natAbs.log2 < 1920) = true
    refine decide_eq_true ?_
    by_cases z : i.natAbs = 0
    · rw [z]; decide
    · exact (Nat.log2_lt z).mpr (Nat.lt_trans h (by decide +kernel))
  · have e := int_text_length_le10 (k := 14) (by decide) h
    show decide ((Str.ofString (toString i)).length ≤ 15) = true
    rw [PySem.ofString_length]
    exact decide_eq_true e
  · show (if i == 0 then 0 else i.natAbs.log2 + 1) ≤ 47
    split
    · exact Nat.zero_le _
    · rename_i z
      have z2 : i.natAbs ≠ 0 := by
        intro q
        exact z (beq_iff_eq.mpr (Int.natAbs_eq_zero.mp q))
      exact (Nat.log2_lt z2).mpr (Nat.lt_trans h (by decide +kernel))
end
def waysL : List PyData := [.str "go", .str "yes", .str "no", .str "call", .str "value", .str "fault", .str "return", .str "raise"]
def wordsL : List PyData := [.str "program", .str "set", .str "copy", .str "deed", .str "read", .str "print", .str "count", .str "test", .str "try", .str "over", .str "rest", .str "less", .str "same", .str "plus", .str "minus", .str "times", .str "going"]
theorem pr_texts : ∀ x ∈ texts, Pr 0 8 x := by
  intro x h
  simp only [texts, List.mem_cons, List.not_mem_nil, or_false] at h
  rcases h with rfl | rfl | rfl | rfl | rfl | rfl | rfl | rfl | rfl | rfl | rfl | rfl | rfl | rfl | rfl | rfl <;> exact ⟨rfl, rfl, by decide +kernel, Nat.le_refl _, by decide +kernel, by decide +kernel⟩
theorem pr_ways : ∀ x ∈ waysL, Pr 0 8 x := by
  intro x h
  simp only [waysL, List.mem_cons, List.not_mem_nil, or_false] at h
  rcases h with rfl | rfl | rfl | rfl | rfl | rfl | rfl | rfl <;> exact ⟨rfl, rfl, by decide +kernel, Nat.le_refl _, by decide +kernel, by decide +kernel⟩
theorem pr_words : ∀ x ∈ wordsL, Pr 0 8 x := by
  intro x h
  simp only [wordsL, List.mem_cons, List.not_mem_nil, or_false] at h
  rcases h with rfl | rfl | rfl | rfl | rfl | rfl | rfl | rfl | rfl | rfl | rfl | rfl | rfl | rfl | rfl | rfl | rfl <;> exact ⟨rfl, rfl, by decide +kernel, Nat.le_refl _, by decide +kernel, by decide +kernel⟩
theorem pr_way {s : Str} (h : .str s ∈ waysL := by simp [waysL]) : Pr 0 8 (.str s) := pr_ways _ h
theorem pr_word {s : Str} (h : .str s ∈ wordsL := by simp [wordsL]) : Pr 0 8 (.str s) := pr_words _ h
theorem prA0 {d : Nat} : PrA d 0 [] := PrA.nil.up (Nat.zero_le _) (Nat.le_refl _)
theorem pr_step {x : PyData} (h : Step x) : Pr 1 100 x := by
  cases h with
  | set h1 h2 h3 => exact (PrA.cons pr_word (.cons (pr_texts _ h1) (.cons (Pr.int (by omega)) prA0))).tuple.up (by decide) (by decide)
  | copy h1 h2 => exact (PrA.cons pr_word (.cons (pr_texts _ h1) (.cons (pr_texts _ h2) prA0))).tuple.up (by decide) (by decide)
  | deed h1 h2 h3 h4 =>
    rename_i s _ _
    have hs : Pr 0 8 s := by
      simp only [List.mem_cons, List.not_mem_nil, or_false] at h2
      rcases h2 with rfl | rfl | rfl | rfl | rfl | rfl | rfl <;> exact pr_word
    exact (PrA.cons pr_word (.cons (pr_texts _ h1) (.cons hs (.cons (pr_texts _ h3) (.cons (pr_texts _ h4) prA0))))).tuple.up (by decide) (by decide)
  | read h1 => exact (PrA.cons pr_word (.cons (pr_texts _ h1) prA0)).tuple.up (by decide) (by decide)
  | prnt h1 => exact (PrA.cons pr_word (.cons (pr_texts _ h1) prA0)).tuple.up (by decide) (by decide)
  | count h1 =>
    rename_i a
    have ha : Pr 0 47 a := by
      simp only [List.mem_cons, List.not_mem_nil, or_false] at h1
      rcases h1 with rfl | rfl | rfl | rfl <;> exact Pr.int (by decide)
    exact (PrA.cons pr_word (.cons ha prA0)).tuple.up (by decide) (by decide)
theorem pr_fin {labels K : List PyData} (hl : ∀ l ∈ labels, l ∈ texts) (hk : ∀ e ∈ K, Sig e) {e : PyData} (h : Fin labels K e) : Pr 2 100 e := by
  have nms : ∀ {vs ps : List PyData} {f : PyData}, .tuple [f, .list ps] ∈ K → vs.length = ps.length → (∀ a ∈ vs, a ∈ texts) → Pr 0 8 f ∧ Pr 1 18 (.tuple vs) := by
    intro vs ps f m lv hv
    obtain ⟨hf, hlen⟩ := sig_len hk m
    refine ⟨pr_texts _ hf, (PrA.all fun x hx => pr_texts _ (hv x hx)).tuple.up (by decide) ?_⟩
    have : vs.length ≤ 2 := by omega
    exact Nat.mul_le_mul_left 9 this
  have u : ∀ {x : PyData}, Pr 0 8 x → Pr 1 8 x := fun h => h.up (by decide) (by decide)
  cases h with
  | ret ha => exact (PrA.cons pr_way (.cons (pr_texts _ ha) prA0)).tuple.up (by decide) (by decide)
  | rais ha => exact (PrA.cons pr_way (.cons (pr_texts _ ha) prA0)).tuple.up (by decide) (by decide)
  | go ha => exact (PrA.cons pr_way (.cons (pr_texts _ (hl _ ha)) prA0)).tuple.up (by decide) (by decide)
  | test h1 h2 h3 => exact (PrA.cons pr_word (.cons (pr_texts _ h1) (.cons (pr_texts _ (hl _ h2)) (.cons (pr_texts _ (hl _ h3)) prA0)))).tuple.up (by decide) (by decide)
  | call h1 h2 h3 h4 h5 =>
    obtain ⟨q1, q2⟩ := nms h2 h3 h4
    exact (PrA.cons (u pr_way) (.cons (u (pr_texts _ h1)) (.cons (u q1) (.cons q2 (.cons (u (pr_texts _ (hl _ h5))) prA0))))).tuple.up (by decide) (by decide)
  | try_ h1 h2 h3 h4 h5 h6 h7 =>
    obtain ⟨q1, q2⟩ := nms h3 h4 h5
    exact (PrA.cons (u pr_word) (.cons (u (pr_texts _ h1)) (.cons (u q1) (.cons q2 (.cons (u (pr_texts _ (hl _ h6))) (.cons (u (pr_texts _ h2)) (.cons (u (pr_texts _ (hl _ h7))) prA0))))))).tuple.up (by decide) (by decide)
theorem pr_prog {K fs : List PyData} (g : Good K fs) : Pr 7 40000 (.tuple [.str "program", .list fs]) := by
  have hb : ∀ {labels : List PyData} {b : PyData}, (∀ l ∈ labels, l ∈ texts) → GoodB labels K b → Pr 3 600 b := by
    intro labels b hl h
    obtain ⟨l, S, e, rfl, h1, h2, h3, h4⟩ := h
    have hS : Pr 2 404 (.list S) := (PrA.all fun s hs => pr_step (h2 s hs)).list.up (by decide) (Nat.mul_le_mul_left 101 h3)
    exact (PrA.cons (pr_texts _ h1).lift (.cons hS (.cons (pr_fin hl g.sig h4) prA0))).tuple.up (by decide) (by decide)
  have hf : ∀ f ∈ fs, Pr 5 5000 f := by
    intro f m
    obtain ⟨nm, ps, labels, bs, rfl, hnm, hps, lps, ne, lb, nd, hl, hbs⟩ := g.fn f m
    have hp : Pr 4 18 (.list ps) := (PrA.all fun x hx => pr_texts _ (params_texts _ (hps x hx))).list.up (by decide) (Nat.mul_le_mul_left 9 lps)
    have hB : Pr 4 4808 (.list bs) := (PrA.all fun b m => hb hl (hbs b m)).list.up (by decide) (Nat.mul_le_mul_left 601 lb)
    exact (PrA.cons (pr_texts _ hnm).lift (.cons hp (.cons hB prA0))).tuple.up (by decide) (by decide)
  have hF : Pr 6 20004 (.list fs) := (PrA.all hf).list.up (by decide) (Nat.mul_le_mul_left 5001 g.len)
  exact (PrA.cons (Pr.lift pr_word) (.cons hF prA0)).tuple.up (by decide) (by decide)
theorem ne_str {s : Str} (h : PyData.strOk s = true) : neD (.str s) (.str s) = some (.d (.bool false)) := by
  rw [ne_sh (sh_text ⟨s, rfl, h⟩) (sh_text ⟨s, rfl, h⟩) (by decide) (by decide)]
  simp [PyData.eqv]
theorem eq_str {s : Str} (h : PyData.strOk s = true) : eqD (.str s) (.str s) = some (.d (.bool true)) := by
  rw [eq_sh (sh_text ⟨s, rfl, h⟩) (sh_text ⟨s, rfl, h⟩) (by decide) (by decide)]
  simp [PyData.eqv]
end Pi.K03


set_option linter.all false
set_option maxRecDepth 100000
set_option maxHeartbeats 1600000
set_option autoImplicit false
namespace Pi.K03
open PySem PySem.Spec PyProof.Rows L2
section
variable {labels K fs : List PyData}
theorem GoodF.key {f : PyData} (h : GoodF K f) : ∃ r, f = .tuple (.str (keyOf f) :: r) := by
  obtain ⟨nm, ps, labels, bs, rfl, hnm, _⟩ := h
  obtain ⟨s, rfl, _⟩ := texts_T _ hnm
  exact ⟨_, rfl⟩
theorem GoodB.key {b : PyData} (h : GoodB labels K b) : ∃ r, b = .tuple (.str (keyOf b) :: r) := by
  obtain ⟨l, S, e, rfl, hl, _⟩ := h
  obtain ⟨s, rfl, _⟩ := texts_T _ hl
  exact ⟨_, rfl⟩
abbrev PP (fs : List PyData) : PyData := .tuple [.str "program", .list fs]
theorem blocks_of_ok (g : Good K fs) {f : PyData} (m : f ∈ fs) : f_blocks_of [.d (PP fs), .d (.str (keyOf f))] = .ret (.d (part f 2)) [] := by
  have gl := g.len
  have dg := dict_go (j := 3) (ek := binE ixD2 (slotE 3) (cstE (.int 0))) (ev := binE ixD2 (slotE 3) (cstE (.int 2))) (env := [some (.val (PP fs)), some (.val (.str (keyOf f))), none, none]) (key := keyOf) (vl := fun f => part f 2) rfl fs [] (fun b hb => by
    obtain ⟨nm, ps, labels, bs, rfl, hnm, _⟩ := g.fn b hb
    obtain ⟨s, rfl, _⟩ := texts_T _ hnm
    refine ⟨?_, .d (.list bs), ?_, rfl⟩
    · simp_all_arith []
      rfl
    · simp_all_arith []) (by simpa using g.nd) (by simp; omega)
  rw [show mkD [] = [] from rfl, List.nil_append] at dg
  have ix := ix_mk (ps := fs.map fun f => (keyOf f, part f 2)) (s := keyOf f) (v := part f 2) (by rw [List.map_map]; exact g.nd) (List.mem_map.mpr ⟨f, m, rfl⟩)
  unfold f_blocks_of m_blocks_of
  unfold PP at dg ⊢
  simp_all_arith [z_dc, z_dc_k, dg, z_dcFin, ix]
theorem firstIn_ok (g : Good K fs) {f : PyData} (m : f ∈ fs) : firstIn fs (.str (keyOf f)) = firstOf f := by
  have key : ∀ l : List PyData, (l.map keyOf).Nodup → f ∈ l → l.find? (fun h => decide (keyOf h = keyOf f)) = some f := by
    intro l
    induction l with
    | nil => intro _ h; cases h
    | cons y ys ih =>
      intro nd h
      rw [List.map_cons, List.nodup_cons] at nd
      rw [List.find?_cons]
      by_cases z : keyOf y = keyOf f
      · rw [decide_eq_true z]
        rcases List.mem_cons.mp h with e | h
        · rw [e]
        · exact absurd (List.mem_map.mpr ⟨f, h, z.symm⟩) nd.1
      · rw [decide_eq_false z]
        rcases List.mem_cons.mp h with e | h
        · exact absurd (by rw [e]) z
        · exact ih nd.2 h
  show firstO (fs.find? fun h => decide (keyOf h = keyOf f)) = _
  rw [key fs g.nd m]
  rfl
theorem first_ok (g : Good K fs) {f : PyData} (m : f ∈ fs) : f_first_label [.d (PP fs), .d (.str (keyOf f))] = .ret (.d (firstOf f)) [] := by
  have e1 := blocks_of_ok g m
  obtain ⟨nm, ps, labels, bs, rfl, hnm, _, _, ne, _, _, _, hbs⟩ := g.fn f m
  cases bs with
  | nil => exact absurd rfl ne
  | cons b bs =>
    obtain ⟨l, S, e, rfl, _⟩ := hbs b List.mem_cons_self
    have e2 : f_blocks_of [.d (PP fs), .d (.str (keyOf (.tuple [nm, .list ps, .list (.tuple [l, .list S, e] :: bs)])))] = .ret (.d (.list (.tuple [l, .list S, e] :: bs))) [] := e1
    have e3 : firstOf (.tuple [nm, .list ps, .list (.tuple [l, .list S, e] :: bs)]) = l := rfl
    rw [e3]
    generalize keyOf (.tuple [nm, .list ps, .list (.tuple [l, .list S, e] :: bs)]) = k at e2 ⊢
    unfold f_first_label m_first_label
    unfold PP at e2 ⊢
    simp_all_arith [e2]
theorem end_of_ok (g : Good K fs) {f b : PyData} (m : f ∈ fs) (hb : b ∈ its (part f 2)) : f_end_of [.d (PP fs), .d (.str (keyOf f)), .d (.str (keyOf b))] = .ret (.d (part b 2)) [] := by
  have e1 := blocks_of_ok g m
  obtain ⟨nm, ps, labels, bs, rfl, hnm, _, _, ne, lb, nd, _, hbs⟩ := g.fn f m
  have hb : b ∈ bs := hb
  have e2 : f_blocks_of [.d (PP fs), .d (.str (keyOf (.tuple [nm, .list ps, .list bs])))] = .ret (.d (.list bs)) [] := e1
  generalize keyOf (.tuple [nm, .list ps, .list bs]) = k at e2 ⊢
  have dg := dict_go (j := 4) (ek := binE ixD2 (slotE 4) (cstE (.int 0))) (ev := binE ixD2 (slotE 4) (cstE (.int 2))) (env := [some (.val (PP fs)), some (.val (.str k)), some (.val (.str (keyOf b))), none, none]) (key := keyOf) (vl := fun f => part f 2) rfl bs [] (fun b hb => by
    obtain ⟨l, S, e, rfl, hl, _⟩ := hbs b hb
    obtain ⟨s, rfl, _⟩ := texts_T _ hl
    refine ⟨?_, .d e, ?_, rfl⟩
    · simp_all_arith []
      rfl
    · simp_all_arith []) (by simpa using nd) (by simp; omega)
  rw [show mkD [] = [] from rfl, List.nil_append] at dg
  have ix := ix_mk (ps := bs.map fun f => (keyOf f, part f 2)) (s := keyOf b) (v := part b 2) (by rw [List.map_map]; exact nd) (List.mem_map.mpr ⟨b, hb, rfl⟩)
  unfold f_end_of m_end_of
  unfold PP at dg e2 ⊢
  simp_all_arith [z_dc, z_dc_k, e2, dg, z_dcFin, ix]
/-! what stands in the list of edges -/
theorem outs_ways {fl : PyData → PyData} {name e w q : PyData} (h : Fin labels K e) (m : (w, q) ∈ outs fl name e) : w ∈ waysL := by
  cases h with
  | ret ha => rw [o_ret] at m; simp at m; rw [m.1]; simp [waysL]
  | rais ha => rw [o_rais] at m; simp at m; rw [m.1]; simp [waysL]
  | go ha => rw [o_go] at m; simp at m; rw [m.1]; simp [waysL]
  | test h1 h2 h3 => rw [o_test] at m; simp at m; rcases m with m | m <;> rw [m.1] <;> simp [waysL]
  | call h1 h2 h3 h4 h5 => rw [o_call] at m; simp at m; rcases m with m | m | m <;> rw [m.1] <;> simp [waysL]
  | try_ h1 h2 h3 h4 h5 h6 h7 => rw [o_try] at m; simp at m; rcases m with m | m | m <;> rw [m.1] <;> simp [waysL]
theorem pair_at {q : PyData × PyData} (m : q ∈ pairs fs) : ∃ f ∈ fs, ∃ b ∈ its (part f 2), q ∈ pairsB (firstIn fs) f b := by
  obtain ⟨f, hf, h⟩ := List.mem_flatMap.mp m
  obtain ⟨b, hb, h⟩ := List.mem_flatMap.mp h
  exact ⟨f, hf, b, hb, h⟩
theorem edge_at (g : Good K fs) {x : PyData} (m : x ∈ edgesL fs) : ∃ a b c, x = .tuple [a, b, c] ∧ a ∈ texts ∧ b ∈ texts ∧ c ∈ waysL := by
  obtain ⟨q, hq, rfl⟩ := List.mem_map.mp m
  obtain ⟨f, hf, b, hb, h⟩ := pair_at hq
  obtain ⟨nm, ps, labels, bs, rfl, hnm, _, _, ne, lb, nd, hl, hbs⟩ := g.fn f hf
  have hb : b ∈ bs := hb
  obtain ⟨l, S, e, rfl, h1, h2, h3, h4⟩ := hbs b hb
  obtain ⟨⟨w, t⟩, hwt, rfl⟩ := List.mem_map.mp h
  exact ⟨nm, l, w, rfl, hnm, h1, outs_ways h4 hwt⟩
theorem ways_T : ∀ x ∈ waysL, IsT x := by
  intro x h
  simp only [waysL, List.mem_cons, List.not_mem_nil, or_false] at h
  rcases h with rfl | rfl | rfl | rfl | rfl | rfl | rfl | rfl <;> exact ⟨_, rfl, by decide +kernel⟩
theorem sh3 {a b c : PyData} (ha : a ∈ texts) (hb : b ∈ texts) (hc : c ∈ waysL) : Sh 1 (.tuple [a, b, c]) := by
  refine sh_tuple fun x hx => ?_
  simp only [List.mem_cons, List.not_mem_nil, or_false] at hx
  rcases hx with rfl | rfl | rfl
  · exact sh_text (texts_T _ ha)
  · exact sh_text (texts_T _ hb)
  · exact sh_text (ways_T _ hc)
theorem edges_sh (g : Good K fs) : Sh 2 (.list (edgesL fs)) := sh_list fun x hx => by
  obtain ⟨a, b, c, rfl, ha, hb, hc⟩ := edge_at g hx
  exact sh3 ha hb hc
theorem notin_edges (g : Good K fs) {x : PyData} (hx : Sh 2 x) : notinDX x (.list (edgesL fs)) = some (.d (.bool (!(edgesL fs).any fun z => PyData.eqv z x))) := by
  have e : notinD x (.list (edgesL fs)) = some (.d (.bool (!(edgesL fs).any fun z => PyData.eqv z x))) := if_pos ⟨hx.ok (by decide), (edges_sh g).ok (by decide)⟩
  show orD (orD notinD notinD2) notinD3 _ _ = _
  rw [orD, orD, e]
theorem in_edges (g : Good K fs) {x : PyData} (m : x ∈ edgesL fs) : notinDX x (.list (edgesL fs)) = some (.d (.bool false)) := by
  obtain ⟨a, b, c, rfl, ha, hb, hc⟩ := edge_at g m
  rw [notin_edges g ((sh3 ha hb hc).up (by decide))]
  have : ((edgesL fs).any fun z => PyData.eqv z (.tuple [a, b, c])) = true := List.any_eq_true.mpr ⟨_, m, SeqAt.eqv_refl _ (sh3 ha hb hc).1⟩
  rw [this]
  rfl
end
end Pi.K03


set_option linter.all false
set_option maxRecDepth 100000
set_option maxHeartbeats 1600000
set_option autoImplicit false
namespace Pi.K03
open PySem PySem.Spec PyProof.Rows L2
/-! raise, try -/
section
variable {env : PEnv} {c : Str} {x y : PyData} {m : PEnv → R Val} {s : PEnv → R Flow} {tup : Bool} {i j : Nat}
def k_raise (c : Str) : Val → PEnv → R Flow := fun r env => match r with
  | .d x => .exc c (some x) env
  | _ => .stuck
theorem z_raise : raiseS c m env = (m env).bindF (k_raise c) := rfl
theorem z_raise_k : k_raise c (.d x) env = .exc c (some x) env := rfl
def tryO (tup : Bool) (c : Str) (i j : Nat) : R Flow → R Flow
  | .exc c' (some x) env' => if c' = c then caughtS tup i j x env' else .stuck
  | .exc _ none _ => .stuck
  | r => r
theorem z_try : tryS tup s c i j env = tryO tup c i j (s env) := by
  unfold tryS tryO
  cases s env with
  | stuck => rfl
  | ok a e => rfl
  | exc c x e => cases x <;> rfl
theorem z_try_x : tryO tup c i j (.exc c (some x) env) = caughtS tup i j x env := if_pos rfl
theorem z_try_ok {f : Flow} : tryO tup c i j (.ok f env) = .ok f env := rfl
def caughtO (tup : Bool) (j : Nat) (x : PyData) (env : PEnv) : Option (Option Slot) → Option (Option Slot) → R Flow
  | some none, some (some (.val _)) => .ok .nx (env.set j (some (.val (boxD tup x))))
  | some none, some none => .ok .nx (env.set j (some (.val (boxD tup x))))
  | _, _ => .stuck
theorem z_caught : caughtS tup i j x env = caughtO tup j x env env[i]? env[j]? := rfl
theorem z_caughtO : caughtO tup j x env (some none) (some (some (.val y))) = .ok .nx (env.set j (some (.val (boxD tup x)))) := rfl
theorem z_box : boxD false x = .list [x] := rfl
end
section
variable {a b x y : PyData} {f l m vs : PyData}
theorem lp_ret : f_label_place [.d (.tuple [.str "return", a]), .d (.str "return")] = .ret (.d .none) [] := by kernel_rfl
theorem lp_rais : f_label_place [.d (.tuple [.str "raise", a]), .d (.str "raise")] = .ret (.d .none) [] := by kernel_rfl
theorem lp_go : f_label_place [.d (.tuple [.str "go", a]), .d (.str "go")] = .ret (.d (.int 1)) [] := by kernel_rfl
theorem lp_yes : f_label_place [.d (.tuple [.str "test", a, l, m]), .d (.str "yes")] = .ret (.d (.int 2)) [] := by kernel_rfl
theorem lp_no : f_label_place [.d (.tuple [.str "test", a, l, m]), .d (.str "no")] = .ret (.d (.int 3)) [] := by kernel_rfl
theorem lp_cv : f_label_place [.d (.tuple [.str "call", x, f, vs, l]), .d (.str "value")] = .ret (.d (.int 4)) [] := by kernel_rfl
theorem lp_cf : f_label_place [.d (.tuple [.str "call", x, f, vs, l]), .d (.str "fault")] = .ret (.d .none) [] := by kernel_rfl
theorem lp_tv : f_label_place [.d (.tuple [.str "try", x, f, vs, l, y, m]), .d (.str "value")] = .ret (.d (.int 4)) [] := by kernel_rfl
theorem lp_tf : f_label_place [.d (.tuple [.str "try", x, f, vs, l, y, m]), .d (.str "fault")] = .ret (.d (.int 6)) [] := by kernel_rfl
theorem is_int {k : Int} : isD (.int k) .none = some (.d (.bool false)) := rfl
theorem is_none : isD .none .none = some (.d (.bool true)) := rfl
theorem q_ret : eqD (.str "return") (.str "call") = some (.d (.bool false)) := by kernel_rfl
theorem q_rais : eqD (.str "raise") (.str "call") = some (.d (.bool false)) := by kernel_rfl
theorem q_go : eqD (.str "go") (.str "call") = some (.d (.bool false)) := by kernel_rfl
theorem q_yes : eqD (.str "yes") (.str "call") = some (.d (.bool false)) := by kernel_rfl
theorem q_no : eqD (.str "no") (.str "call") = some (.d (.bool false)) := by kernel_rfl
theorem q_value : eqD (.str "value") (.str "call") = some (.d (.bool false)) := by kernel_rfl
theorem q_fault : eqD (.str "fault") (.str "call") = some (.d (.bool false)) := by kernel_rfl
theorem q_call : eqD (.str "call") (.str "call") = some (.d (.bool true)) := by kernel_rfl
end
section
variable {labels K fs : List PyData}
theorem led_ok (g : Good K fs) (hp : f_is_program [.d (PP fs)] = .ret (.d (.bool true)) []) {q : PyData × PyData} (m : q ∈ pairs fs) : f_led_to [.d (PP fs), .d q.1] = .ret (.d q.2) [] := by
  have eo := edges_of_ok g
  have ie0 := in_edges g (List.mem_map.mpr ⟨q, m, rfl⟩)
  obtain ⟨f, hf, b, hb, h⟩ := pair_at m
  have hend := end_of_ok g hf hb
  obtain ⟨nm, ps, labels, bs, rfl, hnm, _, _, ne, lb, nd, hl, hbs⟩ := g.fn f hf
  have hb : b ∈ bs := hb
  obtain ⟨l, S, e, rfl, h1, h2, h3, h4⟩ := hbs b hb
  obtain ⟨⟨w, t⟩, hwt, rfl⟩ := List.mem_map.mp h
  obtain ⟨s, rfl, _⟩ := texts_T _ hnm
  obtain ⟨s2, rfl, _⟩ := texts_T _ h1
  have he : f_end_of [.d (PP fs), .d (.str s), .d (.str s2)] = .ret (.d e) [] := hend
  have ie : notinDX (.tuple [.str s, .str s2, w]) (.list (edgesL fs)) = some (.d (.bool false)) := ie0
  clear ie0
  replace hwt : (w, t) ∈ outs (firstIn fs) (.str s) e := hwt
  show f_led_to [.d (PP fs), .d (.tuple [.str s, .str s2, w])] = .ret (.d t) []
  unfold f_led_to m_led_to
  have fst : ∀ {c : PyData} {qs : List PyData}, .tuple [c, .list qs] ∈ K → f_first_label [.d (PP fs), .d c] = .ret (.d (firstIn fs c)) [] := by
    intro c qs hc
    obtain ⟨fn, hfn, rfl⟩ := g.call c qs hc
    rw [firstIn_ok g hfn]
    exact first_ok g hfn
  unfold PP at *
  cases h4 with
  | ret ha =>
    rw [o_ret] at hwt
    simp only [List.mem_cons, List.not_mem_nil, or_false, Prod.mk.injEq] at hwt
    obtain ⟨rfl, rfl⟩ := hwt
    simp_all_arith [hp, eo, ie, he, q_ret, lp_ret, is_none]
  | rais ha =>
    rw [o_rais] at hwt
    simp only [List.mem_cons, List.not_mem_nil, or_false, Prod.mk.injEq] at hwt
    obtain ⟨rfl, rfl⟩ := hwt
    simp_all_arith [hp, eo, ie, he, q_rais, lp_rais, is_none]
  | go ha =>
    rw [o_go] at hwt
    simp only [List.mem_cons, List.not_mem_nil, or_false, Prod.mk.injEq] at hwt
    obtain ⟨rfl, rfl⟩ := hwt
    simp_all_arith [hp, eo, ie, he, q_go, lp_go, is_int]
  | test h1 h2 h3 =>
    rw [o_test] at hwt
    simp only [List.mem_cons, List.not_mem_nil, or_false, Prod.mk.injEq] at hwt
    rcases hwt with ⟨rfl, rfl⟩ | ⟨rfl, rfl⟩
    · simp_all_arith [hp, eo, ie, he, q_yes, lp_yes, is_int]
    · simp_all_arith [hp, eo, ie, he, q_no, lp_no, is_int]
  | call h1 h2 h3 h4 h5 =>
    have ef := fst h2
    rw [o_call] at hwt
    simp only [List.mem_cons, List.not_mem_nil, or_false, Prod.mk.injEq] at hwt
    rcases hwt with ⟨rfl, rfl⟩ | ⟨rfl, rfl⟩ | ⟨rfl, rfl⟩
    · simp_all_arith [hp, eo, ie, he, q_call, ef]
    · simp_all_arith [hp, eo, ie, he, q_value, lp_cv, is_int]
    · simp_all_arith [hp, eo, ie, he, q_fault, lp_cf, is_none]
  | try_ h1 h2 h3 h4 h5 h6 h7 =>
    have ef := fst h3
    rw [o_try] at hwt
    simp only [List.mem_cons, List.not_mem_nil, or_false, Prod.mk.injEq] at hwt
    rcases hwt with ⟨rfl, rfl⟩ | ⟨rfl, rfl⟩ | ⟨rfl, rfl⟩
    · simp_all_arith [hp, eo, ie, he, q_call, ef]
    · simp_all_arith [hp, eo, ie, he, q_value, lp_tv, is_int]
    · simp_all_arith [hp, eo, ie, he, q_fault, lp_tf, is_int]
/-! what is no edge -/
def NoE (fs : List PyData) (x : PyData) : Prop := notinDX x (.list (edgesL fs)) = some (.d (.bool true)) ∧ Pr 4 200 x
theorem refused_ok (g : Good K fs) (hp : f_is_program [.d (PP fs)] = .ret (.d (.bool true)) []) {x : PyData} (h : NoE fs x) : f__law_refused [.d (PP fs), .d x] = .ret (.d (.bool true)) [] := by
  obtain ⟨h1, h2⟩ := h
  have eo := edges_of_ok g
  have led : f_led_to [.d (PP fs), .d x] = .exc "InvalidEdge" (some x) [] := by
    unfold f_led_to m_led_to
    unfold PP at *
    simp_all_arith [hp, eo, h1, z_raise, z_raise_k]
  obtain ⟨s, es, ok⟩ := (PrA.cons h2 prA0).list.repr (by decide) (by decide)
  have e2 := eq_str ok
  unfold f__law_refused m__law_refused
  unfold PP at *
  simp_all_arith [z_try, led, z_try_x, z_caught, z_caughtO, z_box, es, e2]
theorem noE (g : Good K fs) {x : PyData} (sh : Sh 2 x) (pr : Pr 4 200 x) (h : ∀ a b c, a ∈ texts → b ∈ texts → c ∈ waysL → PyData.eqv (.tuple [a, b, c]) x = false) : NoE fs x := by
  refine ⟨?_, pr⟩
  rw [notin_edges g sh]
  have : ((edgesL fs).any fun z => PyData.eqv z x) = false := by
    rw [List.any_eq_false]
    intro z hz
    obtain ⟨a, b, c, rfl, ha, hb, hc⟩ := edge_at g hz
    rw [h a b c ha hb hc]
    decide
  rw [this]
  rfl
end
end Pi.K03


set_option linter.all false
set_option maxRecDepth 100000
set_option maxHeartbeats 1600000
set_option autoImplicit false
namespace Pi.K03
open PySem PySem.Spec PyProof.Rows L2
def lcT14 : PEnv → R Bool := andT (boolT (binE eqD (slotE 12) (cstE (.str "call")))) (boolT (binE eqD (binE ixD2 (slotE 21) (cstE (.int 0))) (binE ixD2 (slotE 11) (cstE (.int 2)))))
def lcE14 : PEnv → R Val := binE ixD2 (binE ixD2 (binE ixD2 (slotE 21) (cstE (.int 2))) (cstE (.int 0))) (cstE (.int 0))
def lf3 : PEnv → R Flow := seqS (exprS (appE 4 (consA (tupE (consA (slotE 6) (consA (slotE 9) (consA (slotE 12) (nilA))))) (nilA)))) (seqS (asgS 13 false (callE f__law_target (consA (slotE 11) (consA (slotE 12) (nilA))))) (seqS (asgS 14 false (lcE [21] (seqI (binE ixD2 (slotE 2) (cstE (.int 1)))) (nameG 21) lcT14 lcE14)) (exprS (appE 5 (consA (iteE (boolT (binE eqD (slotE 12) (cstE (.str "call")))) (tupE (consA (binE ixD2 (slotE 11) (cstE (.int 2))) (consA (binE ixD2 (slotE 14) (cstE (.int 0))) (nilA)))) (iteE (boolT (binE isD (slotE 13) (cstE .none))) (cstE .none) (tupE (consA (slotE 6) (consA (slotE 13) (nilA)))))) (nilA))))))
def lf2 : PEnv → R Flow := forS (seqI (callE f__law_ways (consA (slotE 11) (nilA)))) (nameG 12) lf3
def lf1 : PEnv → R Flow := forS (seqI (slotE 8)) (tupG [nameG 9, nameG 10, nameG 11]) lf2
def lf : PEnv → R Flow := forS (seqI (binE ixD2 (slotE 2) (cstE (.int 1)))) (tupG [nameG 6, nameG 7, nameG 8]) lf1
theorem for_accK {α β : Type} {b : PyData → PEnv → R Flow} {N c : Nat} (key : β → PyData) (E : Nat → List α → PEnv → Prop) (f : β → List α) :
    ∀ (xs : List β) (n : Nat) (acc : List α) (env : PEnv),
    (∀ x ∈ xs, ∀ n acc env, n + c ≤ N → E n acc env → ∃ env', b (key x) env = .ok .nx env' ∧ E (n + c) (acc ++ f x) env') →
    n + c * xs.length ≤ N → E n acc env → ∃ env', forGo b (xs.map key) env = .ok .nx env' ∧ E (n + c * xs.length) (acc ++ xs.flatMap f) env'
  | [], n, acc, env, _, _, h => ⟨env, rfl, by simpa using h⟩
  | x :: xs, n, acc, env, hb, hn, h => by
    rw [List.length_cons, Nat.mul_succ] at hn ⊢
    obtain ⟨e1, q1, h1⟩ := hb x List.mem_cons_self n acc env (by omega) h
    obtain ⟨e2, q2, h2⟩ := for_accK key E f xs (n + c) (acc ++ f x) e1 (fun y hy => hb y (List.mem_cons_of_mem _ hy)) (by omega) h1
    refine ⟨e2, ?_, ?_⟩
    · rw [List.map_cons, z_forGo, q1, z_forN_nx, q2]
    · rw [List.flatMap_cons, ← List.append_assoc, show n + (c * xs.length + c) = n + c + c * xs.length by omega]; exact h2
theorem flat1 {α β : Type} (f : α → β) : ∀ xs : List α, xs.flatMap (fun x => [f x]) = xs.map f
  | [] => rfl
  | x :: xs => by rw [List.flatMap_cons, flat1 f xs]; rfl
section
variable {a b x y f l m vs : PyData}
theorem lw_ret : f__law_ways [.d (.tuple [.str "return", a])] = .ret (.new [.str "return"]) [] := by kernel_rfl
theorem lw_rais : f__law_ways [.d (.tuple [.str "raise", a])] = .ret (.new [.str "raise"]) [] := by kernel_rfl
theorem lw_go : f__law_ways [.d (.tuple [.str "go", a])] = .ret (.new [.str "go"]) [] := by kernel_rfl
theorem lw_test : f__law_ways [.d (.tuple [.str "test", a, l, m])] = .ret (.new [.str "yes", .str "no"]) [] := by kernel_rfl
theorem lw_call : f__law_ways [.d (.tuple [.str "call", x, f, vs, l])] = .ret (.new [.str "call", .str "value", .str "fault"]) [] := by kernel_rfl
theorem lw_try : f__law_ways [.d (.tuple [.str "try", x, f, vs, l, y, m])] = .ret (.new [.str "call", .str "value", .str "fault"]) [] := by kernel_rfl
theorem lt_ret : f__law_target [.d (.tuple [.str "return", a]), .d (.str "return")] = .ret (.d .none) [] := by kernel_rfl
theorem lt_rais : f__law_target [.d (.tuple [.str "raise", a]), .d (.str "raise")] = .ret (.d .none) [] := by kernel_rfl
theorem lt_go : f__law_target [.d (.tuple [.str "go", l]), .d (.str "go")] = .ret (.d l) [] := by kernel_rfl
theorem lt_yes : f__law_target [.d (.tuple [.str "test", a, l, m]), .d (.str "yes")] = .ret (.d l) [] := by kernel_rfl
theorem lt_no : f__law_target [.d (.tuple [.str "test", a, l, m]), .d (.str "no")] = .ret (.d m) [] := by kernel_rfl
theorem lt_cc : f__law_target [.d (.tuple [.str "call", x, f, vs, l]), .d (.str "call")] = .ret (.d .none) [] := by kernel_rfl
theorem lt_cv : f__law_target [.d (.tuple [.str "call", x, f, vs, l]), .d (.str "value")] = .ret (.d l) [] := by kernel_rfl
theorem lt_cf : f__law_target [.d (.tuple [.str "call", x, f, vs, l]), .d (.str "fault")] = .ret (.d .none) [] := by kernel_rfl
theorem lt_tc : f__law_target [.d (.tuple [.str "try", x, f, vs, l, y, m]), .d (.str "call")] = .ret (.d .none) [] := by kernel_rfl
theorem lt_tv : f__law_target [.d (.tuple [.str "try", x, f, vs, l, y, m]), .d (.str "value")] = .ret (.d l) [] := by kernel_rfl
theorem lt_tf : f__law_target [.d (.tuple [.str "try", x, f, vs, l, y, m]), .d (.str "fault")] = .ret (.d m) [] := by kernel_rfl
end
section
variable {labels K fs : List PyData} {sc kept nm l e w t : PyData} {g due places ps bs S : List PyData} {o12 o13 o14 : Option Slot}
abbrev lw (sc : PyData) (g : List PyData) (p kept : PyData) (due places : List PyData) (o6 o7 o8 o9 o10 o11 o12 o13 o14 : Option Slot) : PEnv := [some (.val sc), some (.lst g), some (.val p), some (.val kept), some (.lst due), some (.lst places), o6, o7, o8, o9, o10, o11, o12, o13, o14, none, none, none, none, none, none, none]
theorem step_other (G : Good K fs) (ht : f__law_target [.d e, .d w] = .ret (.d t) []) (hw : eqD w (.str "call") = some (.d (.bool false))) (hi : isD t .none = some (.d (.bool (match t with | .none => true | _ => false)))) (ld : due.length < 1000) (lp : places.length < 1000) (h12 : Free o12) (h13 : Free o13) (h14 : Free o14) :
    turnS (nameG 12) lf3 w (lw sc g (PP fs) kept due places (some (.val nm)) (some (.val (.list ps))) (some (.val (.list bs))) (some (.val l)) (some (.val (.list S))) (some (.val e)) o12 o13 o14) =
      .ok .nx (lw sc g (PP fs) kept (due ++ [.tuple [nm, l, w]]) (places ++ [match t with | .none => .none | _ => .tuple [nm, t]]) (some (.val nm)) (some (.val (.list ps))) (some (.val (.list bs))) (some (.val l)) (some (.val (.list S))) (some (.val e)) (some (.val w)) (some (.val t)) (some (.val (.list [])))) := by
  have c1 : (due.length < big) = True := eq_true (by show _ < 1000000; omega)
  have c2 : (places.length < big) = True := eq_true (by show _ < 1000000; omega)
  have gl := G.len
  have go := lc_go (j := 21) (t := lcT14) (e := lcE14) (env := lw sc g (PP fs) kept (due ++ [.tuple [nm, l, w]]) places (some (.val nm)) (some (.val (.list ps))) (some (.val (.list bs))) (some (.val l)) (some (.val (.list S))) (some (.val e)) (some (.val w)) (some (.val t)) o14) (p := fun _ => false) (f := fun x => x) rfl fs [] (fun x _ => by
    refine ⟨?_, fun h => nomatch h⟩
    unfold lcT14 lw
    simp_all_arith [hw]) (by simp; omega)
  have ff : fs.filter (fun _ => false) = [] := by simp
  rw [ff, List.map_nil, List.append_nil] at go
  unfold lf3
  unfold lw PP at go ⊢
  simp_all_arith [nameO_free h12, asgO_free h13, asgO_free h14, c1, ht, z_lc, plain_free h14]
  rw [go]
  cases t with
  | none => simp_all_arith [z_lcFin, asgO_free h14, hw, hi, c2]
  | _ => simp_all_arith [z_lcFin, asgO_free h14, hw, hi, c2]
theorem step_call (G : Good K fs) {c : PyData} {qs : List PyData} (hc : .tuple [c, .list qs] ∈ K) (he : ixD2 e (.int 2) = some (.d c)) (ht : f__law_target [.d e, .d (.str "call")] = .ret (.d .none) []) (ld : due.length < 1000) (lp : places.length < 1000) (h12 : Free o12) (h13 : Free o13) (h14 : Free o14) :
    ∃ p14, Free p14 ∧ turnS (nameG 12) lf3 (.str "call") (lw sc g (PP fs) kept due places (some (.val nm)) (some (.val (.list ps))) (some (.val (.list bs))) (some (.val l)) (some (.val (.list S))) (some (.val e)) o12 o13 o14) =
      .ok .nx (lw sc g (PP fs) kept (due ++ [.tuple [nm, l, .str "call"]]) (places ++ [.tuple [c, firstIn fs c]]) (some (.val nm)) (some (.val (.list ps))) (some (.val (.list bs))) (some (.val l)) (some (.val (.list S))) (some (.val e)) (some (.val (.str "call"))) (some (.val .none)) p14) := by
  have c1 : (due.length < big) = True := eq_true (by show _ < 1000000; omega)
  have c2 : (places.length < big) = True := eq_true (by show _ < 1000000; omega)
  have gl := G.len
  obtain ⟨fn, hfn, rfl⟩ := G.call c qs hc
  rw [firstIn_ok G hfn]
  have go := lc_go (j := 21) (t := lcT14) (e := lcE14) (env := lw sc g (PP fs) kept (due ++ [.tuple [nm, l, .str "call"]]) places (some (.val nm)) (some (.val (.list ps))) (some (.val (.list bs))) (some (.val l)) (some (.val (.list S))) (some (.val e)) (some (.val (.str "call"))) (some (.val .none)) o14) (p := fun x => decide (keyOf x = keyOf fn)) (f := firstOf) rfl fs [] (fun x hx => by
    obtain ⟨nm2, ps2, labels2, bs2, rfl, hnm, _, _, ne, lb, nd, hl, hbs⟩ := G.fn x hx
    obtain ⟨s, rfl, hs⟩ := texts_T _ hnm
    have kx : keyOf (.tuple [.str s, .list ps2, .list bs2]) = s := rfl
    rw [kx]
    obtain ⟨sh1, sh2⟩ := (G.sig _ hc).sh
    have sfn : Sh 0 (.str (keyOf fn)) := by
      obtain ⟨f', ps', e', hf', _⟩ := G.sig _ hc
      cases e'
      exact sh_text (texts_T _ hf')
    have eq : eqD (.str s) (.str (keyOf fn)) = some (.d (.bool (decide (s = keyOf fn)))) := by
      rw [eq_sh (sh_text ⟨s, rfl, hs⟩) sfn (by decide) (by decide)]
      show some (Val.d (.bool (s == keyOf fn))) = _
      by_cases z : s = keyOf fn
      · rw [z]; simp
      · rw [decide_eq_false z, beq_false_of_ne z]
    refine ⟨?_, fun _ => ?_⟩
    · generalize keyOf fn = k at eq he ⊢
      unfold lcT14 lw
      simp_all_arith [q_call, he, eq]
    · cases bs2 with
      | nil => exact absurd rfl ne
      | cons b bs2 =>
        obtain ⟨l2, S2, e2, rfl, _⟩ := hbs b List.mem_cons_self
        refine ⟨.d l2, ?_, rfl⟩
        generalize keyOf fn = k
        unfold lcE14 lw
        simp_all_arith []) (by simp; omega)
  have ff : ∀ ys : List PyData, (ys.map keyOf).Nodup → fn ∈ ys → ys.filter (fun x => decide (keyOf x = keyOf fn)) = [fn] := by
    intro ys
    induction ys with
    | nil => intro _ h; cases h
    | cons y ys ih =>
      intro nd h
      rw [List.map_cons, List.nodup_cons] at nd
      by_cases z : keyOf y = keyOf fn
      · rw [List.filter_cons_of_pos (by rw [z]; simp)]
        have no : ys.filter (fun x => decide (keyOf x = keyOf fn)) = [] := by
          rw [List.filter_eq_nil_iff]
          intro u hu q
          exact nd.1 (List.mem_map.mpr ⟨u, hu, by rw [z]; exact of_decide_eq_true q⟩)
        rw [no]
        rcases List.mem_cons.mp h with e | h
        · rw [e]
        · exact absurd (List.mem_map.mpr ⟨fn, h, z.symm⟩) nd.1
      · rw [List.filter_cons_of_neg (by simpa using z)]
        rcases List.mem_cons.mp h with e | h
        · exact absurd (by rw [e]) z
        · exact ih nd.2 h
  rw [ff fs G.nd hfn] at go
  refine ⟨some (.val (.list [firstOf fn])), .inr ⟨_, rfl⟩, ?_⟩
  generalize keyOf fn = k at *
  unfold lf3
  unfold lw PP at go ⊢
  simp_all_arith [nameO_free h12, asgO_free h13, asgO_free h14, c1, ht, z_lc, plain_free h14]
  rw [go]
  simp_all_arith [z_lcFin, asgO_free h14, q_call, he, c2, List.map_cons, List.map_nil]
end
end Pi.K03


set_option linter.all false
set_option maxRecDepth 100000
set_option maxHeartbeats 1600000
set_option autoImplicit false
namespace Pi.K03
open PySem PySem.Spec PyProof.Rows L2
theorem ix2 (a b c : PyData) (r : List PyData) : ixD2 (.tuple (a :: b :: c :: r)) (.int 2) = some (.d c) := by rw [z_ixT, z_at2, z_ixO]
section
variable {labels K fs : List PyData} {sc kept nm l e : PyData} {g ps bs S : List PyData}
def Ew (sc : PyData) (g : List PyData) (p kept nm : PyData) (ps bs : List PyData) (l : PyData) (S : List PyData) (e : PyData) (n : Nat) (acc : List (PyData × PyData)) (env : PEnv) : Prop :=
  acc.length ≤ n ∧ ∃ o12 o13 o14, Free o12 ∧ Free o13 ∧ Free o14 ∧ env = lw sc g p kept (acc.map (·.1)) (acc.map (·.2)) (some (.val nm)) (some (.val (.list ps))) (some (.val (.list bs))) (some (.val l)) (some (.val (.list S))) (some (.val e)) o12 o13 o14
theorem turn_w (G : Good K fs) (hl : ∀ x ∈ labels, x ∈ texts) (hf : Fin labels K e) : ∀ q ∈ outs (firstIn fs) nm e, ∀ (n : Nat) (acc : List (PyData × PyData)) (env : PEnv), n + 1 ≤ 1000 → Ew sc g (PP fs) kept nm ps bs l S e n acc env → ∃ env', turnS (nameG 12) lf3 q.1 env = .ok .nx env' ∧ Ew sc g (PP fs) kept nm ps bs l S e (n + 1) (acc ++ [(.tuple [nm, l, q.1], q.2)]) env' := by
  intro q hq n acc env hn ⟨la, o12, o13, o14, h12, h13, h14, he⟩
  subst he
  have fr : ∀ x : PyData, Free (some (.val x)) := fun x => .inr ⟨x, rfl⟩
  have ld : (acc.map (·.1)).length < 1000 := by rw [List.length_map]; omega
  have lp : (acc.map (·.2)).length < 1000 := by rw [List.length_map]; omega
  have fin : ∀ (w t : PyData) (p12 p13 p14 : Option Slot), Free p12 → Free p13 → Free p14 → Ew sc g (PP fs) kept nm ps bs l S e (n + 1) (acc ++ [(.tuple [nm, l, w], t)]) (lw sc g (PP fs) kept (acc.map (·.1) ++ [.tuple [nm, l, w]]) (acc.map (·.2) ++ [t]) (some (.val nm)) (some (.val (.list ps))) (some (.val (.list bs))) (some (.val l)) (some (.val (.list S))) (some (.val e)) p12 p13 p14) := by
    intro w t p12 p13 p14 f12 f13 f14
    refine ⟨by rw [List.length_append]; simp; omega, p12, p13, p14, f12, f13, f14, ?_⟩
    rw [List.map_append, List.map_append]
    rfl
  cases hf with
  | ret ha =>
    rw [o_ret] at hq
    simp only [List.mem_cons, List.not_mem_nil, or_false] at hq
    subst hq
    exact ⟨_, step_other G lt_ret q_ret rfl ld lp h12 h13 h14, fin _ _ _ _ _ (fr _) (fr _) (fr _)⟩
  | rais ha =>
    rw [o_rais] at hq
    simp only [List.mem_cons, List.not_mem_nil, or_false] at hq
    subst hq
    exact ⟨_, step_other G lt_rais q_rais rfl ld lp h12 h13 h14, fin _ _ _ _ _ (fr _) (fr _) (fr _)⟩
  | go ha =>
    rw [o_go] at hq
    simp only [List.mem_cons, List.not_mem_nil, or_false] at hq
    subst hq
    obtain ⟨s, rfl, _⟩ := texts_T _ (hl _ ha)
    exact ⟨_, step_other G lt_go q_go rfl ld lp h12 h13 h14, fin _ _ _ _ _ (fr _) (fr _) (fr _)⟩
  | test h1 h2 h3 =>
    rw [o_test] at hq
    simp only [List.mem_cons, List.not_mem_nil, or_false] at hq
    obtain ⟨s, rfl, _⟩ := texts_T _ (hl _ h2)
    obtain ⟨s3, rfl, _⟩ := texts_T _ (hl _ h3)
    rcases hq with rfl | rfl
    · exact ⟨_, step_other G lt_yes q_yes rfl ld lp h12 h13 h14, fin _ _ _ _ _ (fr _) (fr _) (fr _)⟩
    · exact ⟨_, step_other G lt_no q_no rfl ld lp h12 h13 h14, fin _ _ _ _ _ (fr _) (fr _) (fr _)⟩
  | call h1 h2 h3 h4 h5 =>
    rw [o_call] at hq
    simp only [List.mem_cons, List.not_mem_nil, or_false] at hq
    obtain ⟨s, rfl, _⟩ := texts_T _ (hl _ h5)
    rcases hq with rfl | rfl | rfl
    · obtain ⟨p14, f14, e1⟩ := step_call (sc := sc) (kept := kept) (nm := nm) (l := l) (g := g) (ps := ps) (bs := bs) (S := S) G h2 (ix2 _ _ _ _) lt_cc ld lp h12 h13 h14
      exact ⟨_, e1, fin _ _ _ _ _ (fr _) (fr _) f14⟩
    · exact ⟨_, step_other G lt_cv q_value rfl ld lp h12 h13 h14, fin _ _ _ _ _ (fr _) (fr _) (fr _)⟩
    · exact ⟨_, step_other G lt_cf q_fault rfl ld lp h12 h13 h14, fin _ _ _ _ _ (fr _) (fr _) (fr _)⟩
  | try_ h1 h2 h3 h4 h5 h6 h7 =>
    rw [o_try] at hq
    simp only [List.mem_cons, List.not_mem_nil, or_false] at hq
    obtain ⟨s, rfl, _⟩ := texts_T _ (hl _ h6)
    obtain ⟨s3, rfl, _⟩ := texts_T _ (hl _ h7)
    rcases hq with rfl | rfl | rfl
    · obtain ⟨p14, f14, e1⟩ := step_call (sc := sc) (kept := kept) (nm := nm) (l := l) (g := g) (ps := ps) (bs := bs) (S := S) G h3 (ix2 _ _ _ _) lt_tc ld lp h12 h13 h14
      exact ⟨_, e1, fin _ _ _ _ _ (fr _) (fr _) f14⟩
    · exact ⟨_, step_other G lt_tv q_value rfl ld lp h12 h13 h14, fin _ _ _ _ _ (fr _) (fr _) (fr _)⟩
    · exact ⟨_, step_other G lt_tf q_fault rfl ld lp h12 h13 h14, fin _ _ _ _ _ (fr _) (fr _) (fr _)⟩
theorem ways_ok {fl : PyData → PyData} (hf : Fin labels K e) : f__law_ways [.d e] = .ret (.new ((outs fl nm e).map (·.1))) [] := by
  cases hf with
  | ret ha => rw [o_ret]; exact lw_ret
  | rais ha => rw [o_rais]; exact lw_rais
  | go ha => rw [o_go]; exact lw_go
  | test h1 h2 h3 => rw [o_test]; exact lw_test
  | call h1 h2 h3 h4 h5 => rw [o_call]; exact lw_call
  | try_ h1 h2 h3 h4 h5 h6 h7 => rw [o_try]; exact lw_try
theorem outs_len {fl : PyData → PyData} (hf : Fin labels K e) : 1 ≤ (outs fl nm e).length ∧ (outs fl nm e).length ≤ 3 := by
  cases hf with
  | ret ha => rw [o_ret]; simp
  | rais ha => rw [o_rais]; simp
  | go ha => rw [o_go]; simp
  | test h1 h2 h3 => rw [o_test]; simp
  | call h1 h2 h3 h4 h5 => rw [o_call]; simp
  | try_ h1 h2 h3 h4 h5 h6 h7 => rw [o_try]; simp
def Ek (sc : PyData) (g : List PyData) (p kept nm : PyData) (ps bs : List PyData) (n : Nat) (acc : List (PyData × PyData)) (env : PEnv) : Prop :=
  acc.length ≤ n ∧ ∃ o9 o10 o11 o12 o13 o14, Free o9 ∧ Free o10 ∧ Free o11 ∧ Free o12 ∧ Free o13 ∧ Free o14 ∧ env = lw sc g p kept (acc.map (·.1)) (acc.map (·.2)) (some (.val nm)) (some (.val (.list ps))) (some (.val (.list bs))) o9 o10 o11 o12 o13 o14
theorem turn_k (G : Good K fs) (hl : ∀ x ∈ labels, x ∈ texts) {b : PyData} (hb : GoodB labels K b) : ∀ (n : Nat) (acc : List (PyData × PyData)) (env : PEnv), n + 3 ≤ 900 → Ek sc g (PP fs) kept nm ps bs n acc env → ∃ env', turnS (tupG [nameG 9, nameG 10, nameG 11]) lf2 b env = .ok .nx env' ∧ Ek sc g (PP fs) kept nm ps bs (n + 3) (acc ++ pairsB (firstIn fs) (.tuple [nm, .list ps, .list bs]) b) env' := by
  intro n acc env hn ⟨la, o9, o10, o11, o12, o13, o14, h9, h10, h11, h12, h13, h14, he⟩
  subst he
  have fr : ∀ x : PyData, Free (some (.val x)) := fun x => .inr ⟨x, rfl⟩
  obtain ⟨l, S, e, rfl, h1, h2, h3, h4⟩ := hb
  have lo := (outs_len (fl := firstIn fs) (nm := nm) h4).2
  obtain ⟨e1, q1, l1, p12, p13, p14, r12, r13, r14, rfl⟩ := for_accK (N := 1000) (c := 1) (fun q : PyData × PyData => q.1) (Ew sc g (PP fs) kept nm ps bs l S e) (fun q => [(.tuple [nm, l, q.1], q.2)]) (outs (firstIn fs) nm e) n acc _ (turn_w G hl h4) (by omega) ⟨la, o12, o13, o14, h12, h13, h14, rfl⟩
  have wo := ways_ok (fl := firstIn fs) (nm := nm) h4
  rw [flat1] at q1 l1
  have pb : pairsB (firstIn fs) (.tuple [nm, .list ps, .list bs]) (.tuple [l, .list S, e]) = (outs (firstIn fs) nm e).map fun q => (.tuple [nm, l, q.1], q.2) := rfl
  rw [pb]
  unfold lf2
  unfold lw PP at q1 ⊢
  simp_all_arith [nameO_free h9, nameO_free h10, nameO_free h11, wo, q1]
  exact ⟨_, rfl, by omega, _, _, _, _, _, _, fr _, fr _, fr _, r12, r13, r14, rfl⟩
def Ej (sc : PyData) (g : List PyData) (p kept : PyData) (n : Nat) (acc : List (PyData × PyData)) (env : PEnv) : Prop :=
  acc.length ≤ n ∧ ∃ o6 o7 o8 o9 o10 o11 o12 o13 o14, Free o6 ∧ Free o7 ∧ Free o8 ∧ Free o9 ∧ Free o10 ∧ Free o11 ∧ Free o12 ∧ Free o13 ∧ Free o14 ∧ env = lw sc g p kept (acc.map (·.1)) (acc.map (·.2)) o6 o7 o8 o9 o10 o11 o12 o13 o14
theorem turn_j (G : Good K fs) {f : PyData} (hf : GoodF K f) : ∀ (n : Nat) (acc : List (PyData × PyData)) (env : PEnv), n + 24 ≤ 800 → Ej sc g (PP fs) kept n acc env → ∃ env', turnS (tupG [nameG 6, nameG 7, nameG 8]) lf1 f env = .ok .nx env' ∧ Ej sc g (PP fs) kept (n + 24) (acc ++ pairsF (firstIn fs) f) env' := by
  intro n acc env hn ⟨la, o6, o7, o8, o9, o10, o11, o12, o13, o14, h6, h7, h8, h9, h10, h11, h12, h13, h14, he⟩
  subst he
  have fr : ∀ x : PyData, Free (some (.val x)) := fun x => .inr ⟨x, rfl⟩
  obtain ⟨nm, ps, labels, bs, rfl, hnm, hps, lps, ne, lb, nd, hl, hbs⟩ := hf
  obtain ⟨e1, q1, l1, p9, p10, p11, p12, p13, p14, r9, r10, r11, r12, r13, r14, rfl⟩ := for_acc (N := 900) (c := 3) (Ek sc g (PP fs) kept nm ps bs) (pairsB (firstIn fs) (.tuple [nm, .list ps, .list bs])) bs n acc _ (fun b hb => turn_k G hl (hbs b hb)) (by omega) ⟨la, o9, o10, o11, o12, o13, o14, h9, h10, h11, h12, h13, h14, rfl⟩
  have pf : pairsF (firstIn fs) (.tuple [nm, .list ps, .list bs]) = bs.flatMap (pairsB (firstIn fs) (.tuple [nm, .list ps, .list bs])) := rfl
  rw [pf]
  unfold lf1
  unfold lw PP at q1 ⊢
  simp_all_arith [nameO_free h6, nameO_free h7, nameO_free h8, q1]
  exact ⟨_, rfl, by omega, _, _, _, _, _, _, _, _, _, fr _, fr _, fr _, r9, r10, r11, r12, r13, r14, rfl⟩
def placesL (fs : List PyData) : List PyData := (pairs fs).map (·.2)
/-- the law's own loops -/
theorem loops_ok (G : Good K fs) : ∃ o6 o7 o8 o9 o10 o11 o12 o13 o14, Free o6 ∧ Free o7 ∧ Free o8 ∧ Free o9 ∧ Free o10 ∧ Free o11 ∧ Free o12 ∧ Free o13 ∧ Free o14 ∧
    lf (lw sc g (PP fs) kept [] [] none none none none none none none none none) = .ok .nx (lw sc g (PP fs) kept (edgesL fs) (placesL fs) o6 o7 o8 o9 o10 o11 o12 o13 o14) := by
  have gl := G.len
  have n0 : Free none := .inl rfl
  obtain ⟨e1, q1, l1, p6, p7, p8, p9, p10, p11, p12, p13, p14, r6, r7, r8, r9, r10, r11, r12, r13, r14, rfl⟩ := for_acc (N := 800) (c := 24) (Ej sc g (PP fs) kept) (pairsF (firstIn fs)) fs 0 [] _ (fun f hf => turn_j G (G.fn f hf)) (by omega) ⟨Nat.le_refl _, none, none, none, none, none, none, none, none, none, n0, n0, n0, n0, n0, n0, n0, n0, n0, rfl⟩
  rw [List.nil_append] at q1
  refine ⟨p6, p7, p8, p9, p10, p11, p12, p13, p14, r6, r7, r8, r9, r10, r11, r12, r13, r14, ?_⟩
  rw [List.map_nil, List.map_nil] at q1
  unfold lf
  unfold lw PP at q1 ⊢
  simp_all_arith [q1]
  rfl
end
end Pi.K03


set_option linter.all false
set_option maxRecDepth 100000
set_option maxHeartbeats 1600000
set_option autoImplicit false
namespace Pi.K03
open PySem PySem.Spec PyProof.Rows L2
def ls1 : PEnv → R Flow := asgS 1 true (callE f__law_generator (consA (slotE 0) (consA (cstE (.int 0)) (nilA))))
def ls2 : PEnv → R Flow := asgS 2 false (callE f__law_drawn_program (consA (slotE 1) (consA (cstE (.int 4)) (consA (cstE (.int 6)) (consA (cstE (.bool false)) (nilA))))))
def ls3 : PEnv → R Flow := par3S 3 false (bltE reprED (consA (slotE 2) (nilA))) 4 true (lstE (nilA)) 5 true (lstE (nilA))
def ls5 : PEnv → R Flow := asgS 15 true (callE f_edges (consA (slotE 2) (nilA)))
def ls6 : PEnv → R Flow := ifS (orT (boolT (binE neD (bltE reprED (consA (slotE 15) (nilA))) (bltE reprED (consA (frzE 4) (nilA))))) (boolT (binE neD (bltE reprED (consA (lcE [20] (seqI (frzE 4)) (nameG 20) (yesT) (callE f_led_to (consA (slotE 2) (consA (slotE 20) (nilA))))) (nilA))) (bltE reprED (consA (frzE 5) (nilA)))))) (retS (cstE (.bool false))) (skipS)
def ls7 : PEnv → R Flow := exprS (appE 15 (consA (cstE .none) (nilA)))
def ls8 : PEnv → R Flow := ifS (orT (boolT (binE neD (callKE f_edges [0] (consA (slotE 2) (nilA))) (frzE 4))) (orT (boolT (binE neD (lcE [20] (seqI (frzE 4)) (nameG 20) (yesT) (callKE f_led_to [1, 0] (consA (slotE 20) (consA (slotE 2) (nilA))))) (frzE 5))) (boolT (binE neD (bltE reprED (consA (slotE 2) (nilA))) (slotE 3))))) (retS (cstE (.bool false))) (skipS)
def ls9 : PEnv → R Flow := unpS (tupG [nameG 6, nameG 9, nameG 12]) (binE ixD2 (frzE 4) (callE f__law_random (consA (slotE 1) (consA (bltE lenD (consA (frzE 4) (nilA))) (nilA)))))
def ls10 : PEnv → R Flow := asgS 16 false (lstE (consA (cstE .none) (consA (cstE (.int 0)) (consA (cstE (.str "go")) (consA (tupE (nilA)) (consA (tupE (consA (slotE 6) (consA (slotE 9) (nilA)))) (consA (lstE (consA (slotE 6) (consA (slotE 9) (consA (slotE 12) (nilA))))) (consA (tupE (consA (slotE 6) (consA (slotE 9) (consA (slotE 12) (consA (cstE (.int 0)) (nilA)))))) (nilA)))))))))
def ls11 : PEnv → R Flow := asgS 16 false (binE addD (slotE 16) (lstE (consA (tupE (consA (slotE 6) (consA (slotE 9) (consA (cstE (.str "going")) (nilA))))) (consA (tupE (consA (slotE 9) (consA (binE addD (slotE 6) (cstE (.str "q"))) (consA (slotE 12) (nilA))))) (consA (tupE (consA (slotE 6) (consA (binE addD (slotE 9) (cstE (.str "q"))) (consA (slotE 12) (nilA))))) (consA (tupE (consA (lstE (consA (slotE 6) (nilA))) (consA (slotE 9) (consA (slotE 12) (nilA))))) (consA (tupE (consA (slotE 6) (consA (slotE 9) (consA (cstE .none) (nilA))))) (consA (cstE (.dict [])) (nilA)))))))))
def ls12 : PEnv → R Flow := asgS 17 false (lcE [18] (seqI (lstE (consA (cstE (.str "go")) (consA (cstE (.str "yes")) (consA (cstE (.str "no")) (consA (cstE (.str "call")) (consA (cstE (.str "value")) (consA (cstE (.str "fault")) (consA (cstE (.str "return")) (consA (cstE (.str "raise")) (nilA))))))))))) (nameG 18) (boolT (binE notinDX (tupE (consA (slotE 6) (consA (slotE 9) (consA (slotE 18) (nilA))))) (frzE 4))) (slotE 18))
def ls13 : PEnv → R Flow := retS (binE eqD (lcE [19] (seqI (binE addD (slotE 16) (lcE [18] (seqI (slotE 17)) (nameG 18) (yesT) (tupE (consA (slotE 6) (consA (slotE 9) (consA (slotE 18) (nilA)))))))) (nameG 19) (notT (truT (callE f__law_refused (consA (slotE 2) (consA (slotE 19) (nilA)))))) (slotE 19)) (lstE (nilA)))
theorem law_split : m_law = seqS ls1 (seqS ls2 (seqS ls3 (seqS lf (seqS ls5 (seqS ls6 (seqS ls7 (seqS ls8 (seqS ls9 (seqS ls10 (seqS ls11 (seqS ls12 (ls13)))))))))))) := rfl
theorem z_callK {f : Fn} {pm : List Nat} {ms : PEnv → R (List Val)} {env : PEnv} : callKE f pm ms env = (ms env).bind (fun rs env => callV f (permL pm rs (.d .none)) env) := rfl
section
variable {K fs : List PyData} {env : PEnv}
/-- [e(x) for x in xs] where the items and what they give stand in one list -/
theorem lc_goK {β : Type} {j : Nat} {e : PEnv → R Val} {env : PEnv} {key vl : β → PyData} (hj : env[j]? = some none) : ∀ (xs : List β) (acc : List PyData),
    (∀ x ∈ xs, ∃ r, e (env.set j (some (.val (key x)))) = .ok r (env.set j (some (.val (key x)))) ∧ r.frz = .d (vl x)) →
    acc.length + xs.length < 1000000 → lcGo [j] (nameG j) yesT e (xs.map key) env acc = .ok (acc ++ xs.map vl) env
  | [], acc, _, _ => by rw [List.map_nil, z_lcGo_nil, List.map_nil, List.append_nil]
  | x :: xs, acc, h, hl => by
    obtain ⟨r, h3, h4⟩ := h x List.mem_cons_self
    rw [List.length_cons] at hl
    have back : wipeE (env.set j (some (.val (key x)))) [j] = env := by
      show (env.set j (some (.val (key x)))).set j none = env
      rw [List.set_set]
      exact set_same hj
    have ih := lc_goK (key := key) hj xs (acc ++ [vl x]) (fun y hy => h y (List.mem_cons_of_mem _ hy)) (by rw [List.length_append]; simp; omega)
    have fl : acc.length < big := by show _ < 1000000; omega
    rw [List.map_cons, z_lcGo, z_nameG, hj, z_nameO_n, z_lcG, z_yes, z_lcT_t, h3]
    show (match r.frz with
      | .d y => if acc.length < big then lcGo [j] (nameG j) yesT e (xs.map key) (wipeE (env.set j (some (.val (key x)))) [j]) (acc ++ [y]) else .stuck
      | _ => .stuck) = _
    rw [h4]
    dsimp only
    rw [if_pos fl, back, ih, List.map_cons, List.append_assoc]
    rfl
theorem firstIn_T (G : Good K fs) {c : PyData} {qs : List PyData} (hc : .tuple [c, .list qs] ∈ K) : firstIn fs c ∈ texts := by
  obtain ⟨fn, hfn, rfl⟩ := G.call c qs hc
  rw [firstIn_ok G hfn]
  obtain ⟨nm, ps, labels, bs, rfl, _, _, _, ne, _, _, _, hbs⟩ := G.fn fn hfn
  cases bs with
  | nil => exact absurd rfl ne
  | cons b bs =>
    obtain ⟨l, S, e, rfl, hl, _⟩ := hbs b List.mem_cons_self
    exact hl
theorem outs_place (G : Good K fs) {labels : List PyData} (hl : ∀ x ∈ labels, x ∈ texts) {nm e w t : PyData} (hn : nm ∈ texts) (h : Fin labels K e) (m : (w, t) ∈ outs (firstIn fs) nm e) : t = .none ∨ ∃ a b, t = .tuple [a, b] ∧ a ∈ texts ∧ b ∈ texts := by
  cases h with
  | ret ha => rw [o_ret] at m; simp at m; exact .inl m.2
  | rais ha => rw [o_rais] at m; simp at m; exact .inl m.2
  | go ha => rw [o_go] at m; simp at m; exact .inr ⟨_, _, m.2, hn, hl _ ha⟩
  | test h1 h2 h3 =>
    rw [o_test] at m; simp at m
    rcases m with m | m
    · exact .inr ⟨_, _, m.2, hn, hl _ h2⟩
    · exact .inr ⟨_, _, m.2, hn, hl _ h3⟩
  | call h1 h2 h3 h4 h5 =>
    rw [o_call] at m; simp at m
    rcases m with m | m | m
    · exact .inr ⟨_, _, m.2, (sig_len G.sig h2).1, firstIn_T G h2⟩
    · exact .inr ⟨_, _, m.2, hn, hl _ h5⟩
    · exact .inl m.2
  | try_ h1 h2 h3 h4 h5 h6 h7 =>
    rw [o_try] at m; simp at m
    rcases m with m | m | m
    · exact .inr ⟨_, _, m.2, (sig_len G.sig h3).1, firstIn_T G h3⟩
    · exact .inr ⟨_, _, m.2, hn, hl _ h6⟩
    · exact .inr ⟨_, _, m.2, hn, hl _ h7⟩
theorem place_at (G : Good K fs) {x : PyData} (m : x ∈ placesL fs) : x = .none ∨ ∃ a b, x = .tuple [a, b] ∧ a ∈ texts ∧ b ∈ texts := by
  obtain ⟨q, hq, rfl⟩ := List.mem_map.mp m
  obtain ⟨f, hf, b, hb, h⟩ := pair_at hq
  obtain ⟨nm, ps, labels, bs, rfl, hnm, _, _, ne, lb, nd, hl, hbs⟩ := G.fn f hf
  have hb : b ∈ bs := hb
  obtain ⟨l, S, e, rfl, h1, h2, h3, h4⟩ := hbs b hb
  obtain ⟨⟨w, t⟩, hwt, rfl⟩ := List.mem_map.mp h
  exact outs_place G hl hnm h4 hwt
theorem places_len (G : Good K fs) : (placesL fs).length ≤ 96 := by
  have := edges_len G
  unfold edgesL at this
  unfold placesL
  rw [List.length_map] at this ⊢
  exact this
theorem pr3 {a b c : PyData} (ha : a ∈ texts) (hb : b ∈ texts) (hc : c ∈ waysL) : Pr 1 30 (.tuple [a, b, c]) := (PrA.cons (pr_texts _ ha) (.cons (pr_texts _ hb) (.cons (pr_ways _ hc) prA0))).tuple.up (by decide) (by decide)
theorem pr_edges (G : Good K fs) : Pr 2 3000 (.list (edgesL fs)) := by
  have h : ∀ x ∈ edgesL fs, Pr 1 30 x := fun x hx => by
    obtain ⟨a, b, c, rfl, ha, hb, hc⟩ := edge_at G hx
    exact pr3 ha hb hc
  exact (PrA.all h).list.up (by decide) (by have := edges_len G; omega)
theorem pr_places (G : Good K fs) : Pr 2 3000 (.list (placesL fs)) := by
  have h : ∀ x ∈ placesL fs, Pr 1 30 x := fun x hx => by
    rcases place_at G hx with rfl | ⟨a, b, rfl, ha, hb⟩
    · exact Pr.none.up (by decide) (by decide)
    · exact (PrA.cons (pr_texts _ ha) (.cons (pr_texts _ hb) prA0)).tuple.up (by decide) (by decide)
  exact (PrA.all h).list.up (by decide) (by have := places_len G; omega)
theorem places_sh (G : Good K fs) : Sh 2 (.list (placesL fs)) := sh_list fun x hx => by
  rcases place_at G hx with rfl | ⟨a, b, rfl, ha, hb⟩
  · exact sh_none.up (by decide)
  · refine sh_tuple fun y hy => ?_
    simp only [List.mem_cons, List.not_mem_nil, or_false] at hy
    rcases hy with rfl | rfl
    · exact sh_text (texts_T _ ha)
    · exact sh_text (texts_T _ hb)
theorem ne_same {d : Nat} {x : PyData} (h : Sh d x) (hd : d ≤ 64) : neD x x = some (.d (.bool false)) := by
  rw [ne_sh h h hd hd, SeqAt.eqv_refl _ h.1]
  rfl
theorem edges_pos (G : Good K fs) : 0 < (edgesL fs).length := by
  cases hfs : fs with
  | nil => exact absurd hfs G.ne
  | cons f r =>
    obtain ⟨nm, ps, labels, bs, e, hnm, _, _, ne, lb, nd, hl, hbs⟩ := G.fn f (by rw [hfs]; exact List.mem_cons_self)
    cases bs with
    | nil => exact absurd rfl ne
    | cons b bs =>
      obtain ⟨l, S, en, rfl, h1, h2, h3, h4⟩ := hbs b List.mem_cons_self
      have lo := (outs_len (fl := firstIn (f :: r)) (nm := nm) h4).1
      subst e
      unfold edgesL pairs
      rw [List.length_map, List.flatMap_cons, List.length_append]
      have : pairsF (firstIn (.tuple [nm, .list ps, .list (.tuple [l, .list S, en] :: bs)] :: r)) (.tuple [nm, .list ps, .list (.tuple [l, .list S, en] :: bs)]) = (outs (firstIn (.tuple [nm, .list ps, .list (.tuple [l, .list S, en] :: bs)] :: r)) nm en).map (fun q => (.tuple [nm, l, q.1], q.2)) ++ bs.flatMap (pairsB (firstIn (.tuple [nm, .list ps, .list (.tuple [l, .list S, en] :: bs)] :: r)) (.tuple [nm, .list ps, .list (.tuple [l, .list S, en] :: bs)])) := rfl
      rw [this, List.length_append, List.length_map]
      omega
/-- a text with a q behind it is none of the texts -/
theorem add_q {x : PyData} (h : x ∈ texts) : ∃ y, addD x (.str "q") = some (.d y) ∧ IsT y ∧ Pr 0 9 y ∧ ∀ z ∈ texts, PyData.eqv z y = false := by
  have key : ∀ s : Str, s.length + 1 ≤ 1000000 → PyData.strOk (s ++ ("q" : Str)) = true → PyData.leavesShort 15 (.str (s ++ ("q" : Str))) = true → (PyData.str (s ++ ("q" : Str))).weight ≤ 9 → PyData.strOk (PyData.str (s ++ ("q" : Str))).shown = true → texts.all (fun z => !PyData.eqv z (.str (s ++ ("q" : Str)))) = true →
      ∃ y, addD (.str s) (.str "q") = some (.d y) ∧ IsT y ∧ Pr 0 9 y ∧ ∀ z ∈ texts, PyData.eqv z y = false := by
    intro s h1 h2 h3 h4 h5 h6
    refine ⟨_, if_pos h1, ⟨_, rfl, h2⟩, ⟨rfl, rfl, h3, Nat.le_refl _, h4, h5⟩, fun z hz => ?_⟩
    have := List.all_eq_true.mp h6 z hz
    simpa using this
  simp only [texts, List.mem_cons, List.not_mem_nil, or_false] at h
  rcases h with rfl | rfl | rfl | rfl | rfl | rfl | rfl | rfl | rfl | rfl | rfl | rfl | rfl | rfl | rfl | rfl <;> exact key _ (by decide +kernel) (by decide +kernel) (by decide +kernel) (by decide +kernel) (by decide +kernel) (by decide +kernel)
end
end Pi.K03


set_option linter.all false
set_option maxRecDepth 100000
set_option maxHeartbeats 1600000
set_option autoImplicit false
namespace Pi.K03
open PySem PySem.Spec PyProof.Rows L2
section
variable {K fs : List PyData} {nm l w qn ql : PyData}
def bads1 (nm l w : PyData) : List PyData := [.none, .int 0, .str "go", .tuple [], .tuple [nm, l], .list [nm, l, w], .tuple [nm, l, w, .int 0]]
def bads2 (nm l w qn ql : PyData) : List PyData := [.tuple [nm, l, .str "going"], .tuple [l, qn, w], .tuple [nm, ql, w], .tuple [.list [nm], l, w], .tuple [nm, l, .none], .dict []]
theorem notin_dict (G : Good K fs) : notinDX (.dict []) (.list (edgesL fs)) = some (.d (.bool true)) := by
  have e1 : notinD (.dict []) (.list (edgesL fs)) = none := if_neg (t := some (Val.d (.bool (!(edgesL fs).any fun z => PyData.eqv z (.dict []))))) (c := SeqAt.shaped (.dict []) = true ∧ SeqAt.shaped (.list (edgesL fs)) = true) (fun h => absurd h.1 (by decide))
  have e2 : notinD2 (.dict []) (.list (edgesL fs)) = none := e1
  have e3 : notinD3 (.dict []) (.list (edgesL fs)) = some (.d (.bool true)) := if_pos (List.all_eq_true.mpr fun x hx => by
    obtain ⟨a, b, c, rfl, _⟩ := edge_at G hx
    rfl)
  show orD (orD notinD notinD2) notinD3 _ _ = _
  rw [orD, orD, e1]
  show (match notinD2 (.dict []) (.list (edgesL fs)) with
    | some r => some r
    | none => notinD3 (.dict []) (.list (edgesL fs))) = _
  rw [e2]
  exact e3
theorem going_no : ∀ c ∈ waysL, PyData.eqv c (.str "going") = false := by
  intro c h
  simp only [waysL, List.mem_cons, List.not_mem_nil, or_false] at h
  rcases h with rfl | rfl | rfl | rfl | rfl | rfl | rfl | rfl <;> decide +kernel
theorem text_str {x : PyData} (h : x ∈ texts) : ∃ s, x = .str s := by
  obtain ⟨s, rfl, _⟩ := texts_T _ h
  exact ⟨s, rfl⟩
theorem way_str {x : PyData} (h : x ∈ waysL) : ∃ s, x = .str s := by
  obtain ⟨s, rfl, _⟩ := ways_T _ h
  exact ⟨s, rfl⟩
theorem bads_no (G : Good K fs) (hn : nm ∈ texts) (hl : l ∈ texts) (hw : w ∈ waysL) (q1 : IsT qn) (q2 : Pr 0 9 qn) (q3 : ∀ z ∈ texts, PyData.eqv z qn = false) (r1 : IsT ql) (r2 : Pr 0 9 ql) (r3 : ∀ z ∈ texts, PyData.eqv z ql = false) : ∀ x ∈ bads1 nm l w ++ bads2 nm l w qn ql, NoE fs x := by
  have tn := sh_text (texts_T _ hn)
  have tl := sh_text (texts_T _ hl)
  have tw := sh_text (ways_T _ hw)
  have tqn := sh_text q1
  have tql := sh_text r1
  have pn := pr_texts _ hn
  have pl := pr_texts _ hl
  have pw := pr_ways _ hw
  have tgo : Sh 0 (.str "going") := sh_text ⟨_, rfl, by decide +kernel⟩
  have tG : Sh 0 (.str "go") := sh_text ⟨_, rfl, by decide +kernel⟩
  have s2 : ∀ {xs : List PyData}, (∀ x ∈ xs, Sh 0 x) → Sh 2 (.tuple xs) := fun h => (sh_tuple h).up (by decide)
  intro x hx
  rcases List.mem_append.mp hx with hx | hx
  · simp only [bads1, List.mem_cons, List.not_mem_nil, or_false] at hx
    rcases hx with rfl | rfl | rfl | rfl | rfl | rfl | rfl
    · exact noE G (sh_none.up (by decide)) (Pr.none.up (by decide) (by decide)) fun a b c _ _ _ => rfl
    · exact noE G ((sh_int _).up (by decide)) ((Pr.int (by decide)).up (by decide) (by decide)) fun a b c _ _ _ => rfl
    · exact noE G (tG.up (by decide)) (Pr.up pr_way (by decide) (by decide)) fun a b c _ _ _ => rfl
    · exact noE G (s2 fun x h => nomatch h) ((prA0 (d := 0)).tuple.up (by decide) (by decide)) fun a b c _ _ _ => rfl
    · refine noE G (s2 fun x h => ?_) ((PrA.cons pn (.cons pl prA0)).tuple.up (by decide) (by decide)) fun a b c _ _ _ => ?_
      · simp only [List.mem_cons, List.not_mem_nil, or_false] at h
        rcases h with rfl | rfl
        · exact tn
        · exact tl
      · show (PyData.eqv a nm && (PyData.eqv b l && false)) = false
        simp
    · refine noE G ((sh_list (d := 0) fun x h => ?_).up (by decide)) ((PrA.cons pn (.cons pl (.cons pw prA0))).list.up (by decide) (by decide)) fun a b c _ _ _ => rfl
      · simp only [List.mem_cons, List.not_mem_nil, or_false] at h
        rcases h with rfl | rfl | rfl
        · exact tn
        · exact tl
        · exact tw
    · refine noE G (s2 fun x h => ?_) ((PrA.cons pn (.cons pl (.cons pw (.cons (Pr.int (by decide)) prA0)))).tuple.up (by decide) (by decide)) fun a b c _ _ _ => ?_
      · simp only [List.mem_cons, List.not_mem_nil, or_false] at h
        rcases h with rfl | rfl | rfl | rfl
        · exact tn
        · exact tl
        · exact tw
        · exact sh_int _
      · show (PyData.eqv a nm && (PyData.eqv b l && (PyData.eqv c w && false))) = false
        simp
  · simp only [bads2, List.mem_cons, List.not_mem_nil, or_false] at hx
    rcases hx with rfl | rfl | rfl | rfl | rfl | rfl
    · refine noE G (s2 fun x h => ?_) ((PrA.cons pn (.cons pl (.cons pr_word prA0))).tuple.up (by decide) (by decide)) fun a b c _ _ hc => ?_
      · simp only [List.mem_cons, List.not_mem_nil, or_false] at h
        rcases h with rfl | rfl | rfl
        · exact tn
        · exact tl
        · exact tgo
      · show (PyData.eqv a nm && (PyData.eqv b l && (PyData.eqv c (.str "going") && true))) = false
        rw [going_no c hc]
        simp
    · refine noE G (s2 fun x h => ?_) ((PrA.cons pl (.cons q2 (.cons pw prA0))).tuple.up (by decide) (by decide)) fun a b c _ hb _ => ?_
      · simp only [List.mem_cons, List.not_mem_nil, or_false] at h
        rcases h with rfl | rfl | rfl
        · exact tl
        · exact tqn
        · exact tw
      · show (PyData.eqv a l && (PyData.eqv b qn && (PyData.eqv c w && true))) = false
        rw [q3 b hb]
        simp
    · refine noE G (s2 fun x h => ?_) ((PrA.cons pn (.cons r2 (.cons pw prA0))).tuple.up (by decide) (by decide)) fun a b c _ hb _ => ?_
      · simp only [List.mem_cons, List.not_mem_nil, or_false] at h
        rcases h with rfl | rfl | rfl
        · exact tn
        · exact tql
        · exact tw
      · show (PyData.eqv a nm && (PyData.eqv b ql && (PyData.eqv c w && true))) = false
        rw [r3 b hb]
        simp
    · refine noE G (sh_tuple fun x h => ?_) ((PrA.cons (PrA.cons pn prA0).list (.cons pl.lift (.cons pw.lift prA0))).tuple.up (by decide) (by decide)) fun a b c ha _ _ => ?_
      · simp only [List.mem_cons, List.not_mem_nil, or_false] at h
        rcases h with rfl | rfl | rfl
        · refine sh_list fun x h => ?_
          simp only [List.mem_cons, List.not_mem_nil, or_false] at h
          subst h
          exact tn
        · exact tl.up (by decide)
        · exact tw.up (by decide)
      · obtain ⟨s, rfl⟩ := text_str ha
        rfl
    · refine noE G (s2 fun x h => ?_) ((PrA.cons pn (.cons pl (.cons Pr.none.lift prA0))).tuple.up (by decide) (by decide)) fun a b c _ _ hc => ?_
      · simp only [List.mem_cons, List.not_mem_nil, or_false] at h
        rcases h with rfl | rfl | rfl
        · exact tn
        · exact tl
        · exact sh_none
      · obtain ⟨s, rfl⟩ := way_str hc
        show (PyData.eqv a nm && (PyData.eqv b l && (false && true))) = false
        simp
    · exact ⟨notin_dict G, Pr.dict.up (by decide) (by decide)⟩
theorem other_no (G : Good K fs) (hn : nm ∈ texts) (hl : l ∈ texts) {o : PyData} (ho : o ∈ waysL) (h : ((edgesL fs).any fun z => PyData.eqv z (.tuple [nm, l, o])) = false) : NoE fs (.tuple [nm, l, o]) := by
  refine ⟨?_, (pr3 hn hl ho).up (by decide) (by decide)⟩
  rw [notin_edges G ((sh3 hn hl ho).up (by decide)), h]
  rfl
end
end Pi.K03


set_option linter.all false
set_option maxRecDepth 100000
set_option maxHeartbeats 3200000
set_option autoImplicit false
namespace Pi.K03
open PySem PySem.Spec PyProof.Rows L2
section
variable {K fs g places : List PyData} {sc kept nm l w : PyData} {o6 o7 o8 o9 o10 o11 o12 o13 o14 s4 s5 s15 s16 s17 : Option Slot}
abbrev lx (sc : PyData) (g : List PyData) (p kept : PyData) (s4 s5 o6 o7 o8 o9 o10 o11 o12 o13 o14 s15 s16 s17 : Option Slot) : PEnv := [some (.val sc), some (.lst g), some (.val p), some (.val kept), s4, s5, o6, o7, o8, o9, o10, o11, o12, o13, o14, s15, s16, s17, none, none, none, none]
theorem p5 (G : Good K fs) (hp : f_is_program [.d (PP fs)] = .ret (.d (.bool true)) []) :
    ls5 (lx sc g (PP fs) kept s4 s5 o6 o7 o8 o9 o10 o11 o12 o13 o14 none none none) = .ok .nx (lx sc g (PP fs) kept s4 s5 o6 o7 o8 o9 o10 o11 o12 o13 o14 (some (.lst (edgesL fs))) none none) := by
  have e1 := edges_ok G hp
  unfold ls5
  unfold lx PP at *
  simp_all_arith [e1]
theorem led_go (G : Good K fs) (hp : f_is_program [.d (PP fs)] = .ret (.d (.bool true)) []) {env : PEnv} {e : PEnv → R Val} (h20 : env[20]? = some none) (h : ∀ x y, f_led_to [.d (PP fs), .d x] = .ret (.d y) [] → e (env.set 20 (some (.val x))) = .ok (.d y) (env.set 20 (some (.val x)))) :
    lcGo [20] (nameG 20) yesT e (edgesL fs) env [] = .ok (placesL fs) env := by
  have := lc_goK (e := e) (key := fun q : PyData × PyData => q.1) (vl := fun q : PyData × PyData => q.2) h20 (pairs fs) [] (fun q hq => ⟨.d q.2, h _ _ (led_ok G hp hq), rfl⟩) (by
    have := edges_len G
    unfold edgesL at this
    rw [List.length_map] at this
    simp
    omega)
  rw [List.nil_append] at this
  exact this
theorem p6 (G : Good K fs) (hp : f_is_program [.d (PP fs)] = .ret (.d (.bool true)) []) :
    ls6 (lx sc g (PP fs) kept (some (.lst (edgesL fs))) (some (.lst (placesL fs))) o6 o7 o8 o9 o10 o11 o12 o13 o14 (some (.lst (edgesL fs))) none none) = .ok .nx (lx sc g (PP fs) kept (some (.val (.list (edgesL fs)))) (some (.val (.list (placesL fs)))) o6 o7 o8 o9 o10 o11 o12 o13 o14 (some (.lst (edgesL fs))) none none) := by
  obtain ⟨s1, r1, k1⟩ := (pr_edges G).repr (by decide) (by decide)
  obtain ⟨s2, r2, k2⟩ := (pr_places G).repr (by decide) (by decide)
  have n1 := ne_str k1
  have n2 := ne_str k2
  have go := led_go G hp (env := lx sc g (PP fs) kept (some (.val (.list (edgesL fs)))) (some (.lst (placesL fs))) o6 o7 o8 o9 o10 o11 o12 o13 o14 (some (.lst (edgesL fs))) none none) (e := callE f_led_to (consA (slotE 2) (consA (slotE 20) (nilA)))) rfl (fun x y h => by
    unfold lx PP at *
    simp_all_arith [h])
  unfold ls6
  unfold lx PP at *
  simp_all_arith [r1, n1, z_lc, go, r2, n2]
theorem p7 (G : Good K fs) :
    ls7 (lx sc g (PP fs) kept s4 s5 o6 o7 o8 o9 o10 o11 o12 o13 o14 (some (.lst (edgesL fs))) none none) = .ok .nx (lx sc g (PP fs) kept s4 s5 o6 o7 o8 o9 o10 o11 o12 o13 o14 (some (.lst (edgesL fs ++ [.none]))) none none) := by
  have c : ((edgesL fs).length < big) = True := eq_true (by have := edges_len G; show _ < 1000000; omega)
  unfold ls7
  unfold lx PP at *
  simp_all_arith [c]
theorem perm1 (a : Val) : permL [0] [a] (.d .none) = [a] := rfl
theorem perm2 (a b : Val) : permL [1, 0] [a, b] (.d .none) = [b, a] := rfl
theorem p8 (G : Good K fs) (hp : f_is_program [.d (PP fs)] = .ret (.d (.bool true)) []) {s : Str} (hr : reprED [PP fs] = some (.d (.str s))) (hs : PyData.strOk s = true) :
    ls8 (lx sc g (PP fs) (.str s) (some (.val (.list (edgesL fs)))) (some (.val (.list (placesL fs)))) o6 o7 o8 o9 o10 o11 o12 o13 o14 s15 none none) = .ok .nx (lx sc g (PP fs) (.str s) (some (.val (.list (edgesL fs)))) (some (.val (.list (placesL fs)))) o6 o7 o8 o9 o10 o11 o12 o13 o14 s15 none none) := by
  have e1 := edges_ok G hp
  have n1 := ne_same (edges_sh G) (by decide)
  have n2 := ne_same (places_sh G) (by decide)
  have n3 := ne_str hs
  have go := led_go G hp (env := lx sc g (PP fs) (.str s) (some (.val (.list (edgesL fs)))) (some (.val (.list (placesL fs)))) o6 o7 o8 o9 o10 o11 o12 o13 o14 s15 none none) (e := callKE f_led_to [1, 0] (consA (slotE 20) (consA (slotE 2) (nilA)))) rfl (fun x y h => by
    unfold lx PP at *
    simp_all_arith [z_callK, perm2, h])
  unfold ls8
  unfold lx PP at *
  simp_all_arith [z_callK, perm1, e1, n1, z_lc, go, n2, hr, n3]
theorem p9 (G : Good K fs) {n : Int} (hg : Gen n g) (hn : n < 2 ^ 49) (h6 : Free o6) (h9 : Free o9) (h12 : Free o12) :
    ∃ nm l w g', .tuple [nm, l, w] ∈ edgesL fs ∧ ls9 (lx sc g (PP fs) kept (some (.val (.list (edgesL fs)))) s5 o6 o7 o8 o9 o10 o11 o12 o13 o14 s15 none none) = .ok .nx (lx sc g' (PP fs) kept (some (.val (.list (edgesL fs)))) s5 (some (.val nm)) o7 o8 (some (.val l)) o10 o11 (some (.val w)) o13 o14 s15 none none) := by
  have le := edges_len G
  have lp := edges_pos G
  obtain ⟨k, g', e1, G', k0, k1⟩ := rnd hg (by omega) (b := ((edgesL fs).length : Nat)) (by omega) (by omega)
  obtain ⟨v, hv⟩ : ∃ v, (edgesL fs)[k.toNat]? = some v := ⟨_, List.getElem?_eq_getElem (show k.toNat < (edgesL fs).length by omega)⟩
  have mv := List.mem_of_getElem? hv
  obtain ⟨a, b, c, rfl, _⟩ := edge_at G mv
  have a1 := at_ok k0 hv
  refine ⟨a, b, c, g', mv, ?_⟩
  unfold ls9
  unfold lx PP at *
  simp_all_arith [e1, a1, nameO_free h6, nameO_free h9, nameO_free h12]
end
end Pi.K03


set_option linter.all false
set_option maxRecDepth 100000
set_option maxHeartbeats 3200000
set_option autoImplicit false
namespace Pi.K03
open PySem PySem.Spec PyProof.Rows L2
section
variable {K fs g places : List PyData} {sc kept nm l w qn ql : PyData} {o7 o8 o10 o11 o13 o14 s4 s5 s15 s16 s17 : Option Slot}
theorem p10 : ls10 (lx sc g (PP fs) kept s4 s5 (some (.val nm)) o7 o8 (some (.val l)) o10 o11 (some (.val w)) o13 o14 s15 none none) = .ok .nx (lx sc g (PP fs) kept s4 s5 (some (.val nm)) o7 o8 (some (.val l)) o10 o11 (some (.val w)) o13 o14 s15 (some (.val (.list (bads1 nm l w)))) none) := by
  unfold ls10 bads1
  unfold lx PP
  simp_all_arith []
theorem p11 (q1 : addD nm (.str "q") = some (.d qn)) (q2 : addD l (.str "q") = some (.d ql)) : ls11 (lx sc g (PP fs) kept s4 s5 (some (.val nm)) o7 o8 (some (.val l)) o10 o11 (some (.val w)) o13 o14 s15 (some (.val (.list (bads1 nm l w)))) none) = .ok .nx (lx sc g (PP fs) kept s4 s5 (some (.val nm)) o7 o8 (some (.val l)) o10 o11 (some (.val w)) o13 o14 s15 (some (.val (.list (bads1 nm l w ++ bads2 nm l w qn ql)))) none) := by
  unfold ls11 bads1 bads2
  unfold lx PP
  simp_all_arith [q1, q2, z_addL]
def keepW (fs : List PyData) (nm l : PyData) (o : PyData) : Bool := !(edgesL fs).any fun z => PyData.eqv z (.tuple [nm, l, o])
theorem p12 (G : Good K fs) (hn : nm ∈ texts) (hl : l ∈ texts) {B : PyData} : ls12 (lx sc g (PP fs) kept (some (.val (.list (edgesL fs)))) s5 (some (.val nm)) o7 o8 (some (.val l)) o10 o11 (some (.val w)) o13 o14 s15 (some (.val B)) none) = .ok .nx (lx sc g (PP fs) kept (some (.val (.list (edgesL fs)))) s5 (some (.val nm)) o7 o8 (some (.val l)) o10 o11 (some (.val w)) o13 o14 s15 (some (.val B)) (some (.val (.list (waysL.filter (keepW fs nm l)))))) := by
  have go := lc_go (j := 18) (t := boolT (binE notinDX (tupE (consA (slotE 6) (consA (slotE 9) (consA (slotE 18) (nilA))))) (frzE 4))) (e := slotE 18) (env := lx sc g (PP fs) kept (some (.val (.list (edgesL fs)))) s5 (some (.val nm)) o7 o8 (some (.val l)) o10 o11 (some (.val w)) o13 o14 s15 (some (.val B)) none) (p := keepW fs nm l) (f := fun x => x) rfl waysL [] (fun x hx => by
    have e := notin_edges G ((sh3 hn hl hx).up (by decide))
    refine ⟨?_, fun _ => ⟨.d x, ?_, rfl⟩⟩
    · unfold keepW
      unfold lx PP
      simp_all_arith [e]
    · unfold lx PP
      simp_all_arith []) (by decide)
  rw [List.nil_append, List.map_id'] at go
  unfold waysL at go ⊢
  unfold ls12
  unfold lx PP at *
  simp_all_arith [z_lc, go]
theorem p13 (G : Good K fs) (hp : f_is_program [.d (PP fs)] = .ret (.d (.bool true)) []) (hn : nm ∈ texts) (hl : l ∈ texts) {B : List PyData} (lB : B.length ≤ 100) (hB : ∀ x ∈ B, NoE fs x) :
    ls13 (lx sc g (PP fs) kept s4 s5 (some (.val nm)) o7 o8 (some (.val l)) o10 o11 (some (.val w)) o13 o14 s15 (some (.val (.list B))) (some (.val (.list (waysL.filter (keepW fs nm l)))))) = .ok (.ret (.d (.bool true))) (lx sc g (PP fs) kept s4 s5 (some (.val nm)) o7 o8 (some (.val l)) o10 o11 (some (.val w)) o13 o14 s15 (some (.val (.list B))) (some (.val (.list (waysL.filter (keepW fs nm l)))))) := by
  have lw8 : (waysL.filter (keepW fs nm l)).length ≤ 8 := List.length_filter_le _ _
  have hW : ∀ x ∈ (waysL.filter (keepW fs nm l)).map (fun o => .tuple [nm, l, o]), NoE fs x := by
    intro x hx
    obtain ⟨o, ho, rfl⟩ := List.mem_map.mp hx
    obtain ⟨h1, h2⟩ := List.mem_filter.mp ho
    refine other_no G hn hl h1 ?_
    unfold keepW at h2
    simpa using h2
  have lm : ((waysL.filter (keepW fs nm l)).map (fun o => PyData.tuple [nm, l, o])).length ≤ 8 := by rw [List.length_map]; exact lw8
  generalize waysL.filter (keepW fs nm l) = W at *
  have g1 := lc_go (j := 18) (t := yesT) (e := tupE (consA (slotE 6) (consA (slotE 9) (consA (slotE 18) (nilA))))) (env := lx sc g (PP fs) kept s4 s5 (some (.val nm)) o7 o8 (some (.val l)) o10 o11 (some (.val w)) o13 o14 s15 (some (.val (.list B))) (some (.val (.list W)))) (p := fun _ => true) (f := fun o => .tuple [nm, l, o]) rfl W [] (fun x hx => by
    refine ⟨rfl, fun _ => ⟨.d (.tuple [nm, l, x]), ?_, rfl⟩⟩
    unfold lx PP
    simp_all_arith []) (by simp; omega)
  rw [List.nil_append, show W.filter (fun _ => true) = W from List.filter_eq_self.mpr fun _ _ => rfl] at g1
  generalize W.map (fun o => PyData.tuple [nm, l, o]) = M at g1 hW lm
  have g2 := lc_go (j := 19) (t := notT (truT (callE f__law_refused (consA (slotE 2) (consA (slotE 19) (nilA)))))) (e := slotE 19) (env := lx sc g (PP fs) kept s4 s5 (some (.val nm)) o7 o8 (some (.val l)) o10 o11 (some (.val w)) o13 o14 s15 (some (.val (.list B))) (some (.val (.list W)))) (p := fun _ => false) (f := fun x => x) rfl (B ++ M) [] (fun x hx => by
    refine ⟨?_, fun h => nomatch h⟩
    have e := refused_ok G hp ((List.mem_append.mp hx).elim (hB x) (hW x))
    unfold lx PP at *
    simp_all_arith [e]) (by rw [List.length_append]; simp; omega)
  have ff : (B ++ M).filter (fun _ => false) = [] := by simp
  rw [ff, List.map_nil, List.append_nil] at g2
  have cl : (B.length + M.length ≤ 1000000) = True := eq_true (by omega)
  have en : eqD (.list []) (.list []) = some (.d (.bool true)) := by kernel_rfl
  unfold ls13
  unfold lx PP at *
  simp_all_arith [z_lc, g1, z_addL, cl, g2, en]
/-- the law holds of every script -/
theorem law_true (ks : List Int) (_ : ks.length ≤ 63) : ∃ outs, f_law [.d (scriptD ks)] = .ret (.d (.bool true)) outs := by
  obtain ⟨g, e1, G0⟩ := gen_ok ks
  obtain ⟨p, g2, e2, G2, hP⟩ := prog_drawn G0 (by decide)
  have hp := program_ok hP
  obtain ⟨K, fs, rfl, G⟩ := hP.good
  obtain ⟨s, er, ok⟩ := (pr_prog G).repr (by decide) (by decide)
  have z3 : ∀ {i : Nat} {o : Bool} {ma : PEnv → R Val} {j : Nat} {u : Bool} {mb : PEnv → R Val} {k : Nat} {v : Bool} {mc : PEnv → R Val} {env : PEnv}, par3S i o ma j u mb k v mc env = (ma env).bindO o (fun ra env => (mb env).bindO u fun rb env => (mc env).bindO v fun rc env => (asgV i o ra env).thenS fun env => (asgV j u rb env).thenS fun env => (asgV k v rc env).thenS skipS) := rfl
  have start : ∀ r : PEnv → R Flow, seqS ls1 (seqS ls2 (seqS ls3 r)) [some (.val (scriptD ks)), none, none, none, none, none, none, none, none, none, none, none, none, none, none, none, none, none, none, none, none, none] = r (lw (scriptD ks) g2 (PP fs) (.str s) [] [] none none none none none none none none none) := by
    intro r
    unfold ls1 ls2 ls3
    unfold lw PP
    simp_all_arith [e1, e2, z3, z_bindO_f, z_bindO_t, er]
  obtain ⟨o6, o7, o8, o9, o10, o11, o12, o13, o14, h6, h7, h8, h9, h10, h11, h12, h13, h14, e3⟩ := loops_ok (sc := scriptD ks) (g := g2) (kept := .str s) G
  obtain ⟨nm, l, w, g3, me, e9⟩ := p9 (sc := scriptD ks) (kept := .str s) (s5 := some (.val (.list (placesL fs)))) (o7 := o7) (o8 := o8) (o10 := o10) (o11 := o11) (o13 := o13) (o14 := o14) (s15 := some (.lst (edgesL fs ++ [.none]))) G G2 (by decide) h6 h9 h12
  obtain ⟨a, b, c, ee, ha, hb, hc⟩ := edge_at G me
  cases ee
  obtain ⟨qn, q1, q2, q3, q4⟩ := add_q ha
  obtain ⟨ql, r1, r2, r3, r4⟩ := add_q hb
  have bn := bads_no G ha hb hc q2 q3 q4 r2 r3 r4
  have begin_ : f_law [.d (scriptD ks)] = endF [.d (scriptD ks)] (m_law [some (.val (scriptD ks)), none, none, none, none, none, none, none, none, none, none, none, none, none, none, none, none, none, none, none, none, none]) := by
    unfold f_law
    simp_arith []
  have a5 := p5 (sc := scriptD ks) (g := g2) (kept := .str s) (s4 := some (.lst (edgesL fs))) (s5 := some (.lst (placesL fs))) (o6 := o6) (o7 := o7) (o8 := o8) (o9 := o9) (o10 := o10) (o11 := o11) (o12 := o12) (o13 := o13) (o14 := o14) G hp
  have a6 := p6 (sc := scriptD ks) (g := g2) (kept := .str s) (o6 := o6) (o7 := o7) (o8 := o8) (o9 := o9) (o10 := o10) (o11 := o11) (o12 := o12) (o13 := o13) (o14 := o14) G hp
  have a7 := p7 (sc := scriptD ks) (g := g2) (kept := .str s) (s4 := some (.val (.list (edgesL fs)))) (s5 := some (.val (.list (placesL fs)))) (o6 := o6) (o7 := o7) (o8 := o8) (o9 := o9) (o10 := o10) (o11 := o11) (o12 := o12) (o13 := o13) (o14 := o14) G
  have a8 := p8 (sc := scriptD ks) (g := g2) (o6 := o6) (o7 := o7) (o8 := o8) (o9 := o9) (o10 := o10) (o11 := o11) (o12 := o12) (o13 := o13) (o14 := o14) (s15 := some (.lst (edgesL fs ++ [.none]))) G hp er ok
  have a13 := p13 (sc := scriptD ks) (g := g3) (kept := .str s) (s4 := some (.val (.list (edgesL fs)))) (s5 := some (.val (.list (placesL fs)))) (w := w) (o7 := o7) (o8 := o8) (o10 := o10) (o11 := o11) (o13 := o13) (o14 := o14) (s15 := some (.lst (edgesL fs ++ [.none]))) G hp ha hb (B := bads1 nm l w ++ bads2 nm l w qn ql) (by simp [bads1, bads2]) bn
  refine ⟨[], ?_⟩
  rw [begin_, law_split, start, z_seq, e3, z_then_nx, z_seq]
  rw [show (lw (scriptD ks) g2 (PP fs) (.str s) (edgesL fs) (placesL fs) o6 o7 o8 o9 o10 o11 o12 o13 o14) = lx (scriptD ks) g2 (PP fs) (.str s) (some (.lst (edgesL fs))) (some (.lst (placesL fs))) o6 o7 o8 o9 o10 o11 o12 o13 o14 none none none from rfl]
  rw [a5, z_then_nx, z_seq, a6, z_then_nx, z_seq, a7, z_then_nx, z_seq, a8, z_then_nx, z_seq, e9, z_then_nx, z_seq, p10, z_then_nx, z_seq, p11 q1 r1, z_then_nx, z_seq, p12 G ha hb, z_then_nx, a13]
  unfold lx
  simp_all_arith []
end
end Pi.K03


set_option Elab.async false
set_option linter.all false
set_option maxRecDepth 100000
set_option maxHeartbeats 0
set_option autoImplicit false
namespace Pi.K03
open PySem PySem.Spec PyProof.Rows L2
section
variable {P : Program} {w : World} {K : Kf} {mg : Str → Option Value} {base : Heap} {f0 f1 C0 : Addr} {d0 d1 : FuncData}
abbrev i_ProbeError : Stmt := mth (top 1) 0
theorem si_ProbeError : FnScope ["self"] ["self"] (defScope i_ProbeError) := ⟨rfl, rfl, rfl, by decide +kernel, rfl, by decide +kernel, by decide +kernel⟩
abbrev i_InvalidEdge : Stmt := mth (top 3) 0
theorem si_InvalidEdge : FnScope ["self", "value"] ["self", "value"] (defScope i_InvalidEdge) := ⟨rfl, rfl, rfl, by decide +kernel, rfl, by decide +kernel, by decide +kernel⟩
abbrev i_InvalidProgram : Stmt := mth (top 2) 0
theorem si_InvalidProgram : FnScope ["self", "value"] ["self", "value"] (defScope i_InvalidProgram) := ⟨rfl, rfl, rfl, by decide +kernel, rfl, by decide +kernel, by decide +kernel⟩
theorem init_ProbeError (free : mg "ValueError" = none) (vV : PySem.W.findCls K (.type "ValueError") (.type "type") "__init__" = some (.val (.builtin "ValueError.__init__"))) (F : FunD K "__init__" "ProbeError.__init__" (defArgs i_ProbeError) (defBody i_ProbeError) (defScope i_ProbeError) [] [] f0 d0) : FnOk P w K mg base (L2.CX P w) 1 f0 d0 ["self"] (spI0 K) := by
  refine F.ok (N := ["self"]) si_ProbeError ?_ ?_
  · rintro vs H Q E ⟨a, C, rfl, _⟩
    rfl
  · rintro cdv A outer s H vs Q E room ⟨a, C, rfl, T, ea, fin⟩
    refine ⟨_, pss_one (ps_expr (pe_veinit rfl free vV (pa_cons (pe_var (i := 0) rfl (.inl rfl)) pa_nil rfl))), ?_⟩
    exact ⟨.ref a, rfl, a, C, [], rfl, by simp, T, ea, fin⟩
theorem init_InvalidEdge (c : ClsFn K C0 f0 "__init__") (gl : mg "ProbeError" = some (.ref C0)) (F0 : FnOk P w K mg base (L2.CX P w) 1 f0 d0 ["self"] (spI0 K)) (bd0 : Binds K d0 ["self"] []) (F : FunD K "__init__" "InvalidEdge.__init__" (defArgs i_InvalidEdge) (defBody i_InvalidEdge) (defScope i_InvalidEdge) [.non] [] f1 d1) : FnOk P w K mg base (L2.CX P w) 2 f1 d1 ["self", "value"] (spI1 K) := by
  refine F.ok (N := ["self", "value"]) si_InvalidEdge ?_ ?_
  · rintro vs H Q E ⟨a, C, v, rfl, _⟩
    rfl
  · rintro cdv A outer s H vs Q E room ⟨a, C, v, rfl, T, no, ea, fin⟩
    refine ⟨_, pss_cons (ps_expr (pe_clsfn (E := fun _ _ _ => False) c F0 room bd0 passX rfl gl (pa_cons (pe_var (i := 0) rfl (.inl rfl)) pa_nil rfl))) (pss_one (ps_ost (f := "value") (pe_var (i := 0) rfl (.inl rfl)) (pe_var (i := 1) rfl (.inl rfl)))), ?_⟩
    exact ⟨.ref a, rfl, a, C, rfl, T, ea, v, rfl, .ref a, rfl, a, C, rfl, T, no, .inl ⟨ea, fin⟩⟩
theorem init_InvalidProgram (c : ClsFn K C0 f0 "__init__") (gl : mg "ProbeError" = some (.ref C0)) (F0 : FnOk P w K mg base (L2.CX P w) 1 f0 d0 ["self"] (spI0 K)) (bd0 : Binds K d0 ["self"] []) (F : FunD K "__init__" "InvalidProgram.__init__" (defArgs i_InvalidProgram) (defBody i_InvalidProgram) (defScope i_InvalidProgram) [.non] [] f1 d1) : FnOk P w K mg base (L2.CX P w) 2 f1 d1 ["self", "value"] (spI1 K) := by
  refine F.ok (N := ["self", "value"]) si_InvalidProgram ?_ ?_
  · rintro vs H Q E ⟨a, C, v, rfl, _⟩
    rfl
  · rintro cdv A outer s H vs Q E room ⟨a, C, v, rfl, T, no, ea, fin⟩
    refine ⟨_, pss_cons (ps_expr (pe_clsfn (E := fun _ _ _ => False) c F0 room bd0 passX rfl gl (pa_cons (pe_var (i := 0) rfl (.inl rfl)) pa_nil rfl))) (pss_one (ps_ost (f := "value") (pe_var (i := 0) rfl (.inl rfl)) (pe_var (i := 1) rfl (.inl rfl)))), ?_⟩
    exact ⟨.ref a, rfl, a, C, rfl, T, ea, v, rfl, .ref a, rfl, a, C, rfl, T, no, .inl ⟨ea, fin⟩⟩
end
def dd : List He.DefD := [⟨("is_whole", none), "is_whole", "is_whole", defArgs s_is_whole, defBody s_is_whole, defScope s_is_whole, [], []⟩,
  ⟨("is_sign", none), "is_sign", "is_sign", defArgs s_is_sign, defBody s_is_sign, defScope s_is_sign, [], []⟩,
  ⟨("is_tuple_of", none), "is_tuple_of", "is_tuple_of", defArgs s_is_tuple_of, defBody s_is_tuple_of, defScope s_is_tuple_of, [], []⟩,
  ⟨("is_list_of", none), "is_list_of", "is_list_of", defArgs s_is_list_of, defBody s_is_list_of, defScope s_is_list_of, [], []⟩,
  ⟨("are_unlike", none), "are_unlike", "are_unlike", defArgs s_are_unlike, defBody s_are_unlike, defScope s_are_unlike, [], []⟩,
  ⟨("first_word", none), "first_word", "first_word", defArgs s_first_word, defBody s_first_word, defScope s_first_word, [], []⟩,
  ⟨("has_word_signs", none), "has_word_signs", "has_word_signs", defArgs s_has_word_signs, defBody s_has_word_signs, defScope s_has_word_signs, [], []⟩,
  ⟨("is_word", none), "is_word", "is_word", defArgs s_is_word, defBody s_is_word, defScope s_is_word, [], []⟩,
  ⟨("are_names", none), "are_names", "are_names", defArgs s_are_names, defBody s_are_names, defScope s_are_names, [], []⟩,
  ⟨("is_part", none), "is_part", "is_part", defArgs s_is_part, defBody s_is_part, defScope s_is_part, [], []⟩,
  ⟨("has_parts", none), "has_parts", "has_parts", defArgs s_has_parts, defBody s_has_parts, defScope s_has_parts, [], []⟩,
  ⟨("are_parameters", none), "are_parameters", "are_parameters", defArgs s_are_parameters, defBody s_are_parameters, defScope s_are_parameters, [], []⟩,
  ⟨("labels_of", none), "labels_of", "labels_of", defArgs s_labels_of, defBody s_labels_of, defScope s_labels_of, [], []⟩,
  ⟨("why_unfit", none), "why_unfit", "why_unfit", defArgs s_why_unfit, defBody s_why_unfit, defScope s_why_unfit, [], []⟩,
  ⟨("first_wrong_end", none), "first_wrong_end", "first_wrong_end", defArgs s_first_wrong_end, defBody s_first_wrong_end, defScope s_first_wrong_end, [], []⟩,
  ⟨("is_end", none), "is_end", "is_end", defArgs s_is_end, defBody s_is_end, defScope s_is_end, [], []⟩,
  ⟨("is_step", none), "is_step", "is_step", defArgs s_is_step, defBody s_is_step, defScope s_is_step, [], []⟩,
  ⟨("first_wrong_step", none), "first_wrong_step", "first_wrong_step", defArgs s_first_wrong_step, defBody s_first_wrong_step, defScope s_first_wrong_step, [], []⟩,
  ⟨("is_block", none), "is_block", "is_block", defArgs s_is_block, defBody s_is_block, defScope s_is_block, [], []⟩,
  ⟨("first_wrong_block", none), "first_wrong_block", "first_wrong_block", defArgs s_first_wrong_block, defBody s_first_wrong_block, defScope s_first_wrong_block, [], []⟩,
  ⟨("is_function", none), "is_function", "is_function", defArgs s_is_function, defBody s_is_function, defScope s_is_function, [], []⟩,
  ⟨("first_wrong_form", none), "first_wrong_form", "first_wrong_form", defArgs s_first_wrong_form, defBody s_first_wrong_form, defScope s_first_wrong_form, [], []⟩,
  ⟨("first_wrong", none), "first_wrong", "first_wrong", defArgs s_first_wrong, defBody s_first_wrong, defScope s_first_wrong, [], []⟩,
  ⟨("is_program", none), "is_program", "is_program", defArgs s_is_program, defBody s_is_program, defScope s_is_program, [], []⟩,
  ⟨("edges_of", none), "edges_of", "edges_of", defArgs s_edges_of, defBody s_edges_of, defScope s_edges_of, [], []⟩,
  ⟨("edges", none), "edges", "edges", defArgs s_edges, defBody s_edges, defScope s_edges, [], []⟩,
  ⟨("label_place", none), "label_place", "label_place", defArgs s_label_place, defBody s_label_place, defScope s_label_place, [], []⟩,
  ⟨("blocks_of", none), "blocks_of", "blocks_of", defArgs s_blocks_of, defBody s_blocks_of, defScope s_blocks_of, [], []⟩,
  ⟨("first_label", none), "first_label", "first_label", defArgs s_first_label, defBody s_first_label, defScope s_first_label, [], []⟩,
  ⟨("end_of", none), "end_of", "end_of", defArgs s_end_of, defBody s_end_of, defScope s_end_of, [], []⟩,
  ⟨("led_to", none), "led_to", "led_to", defArgs s_led_to, defBody s_led_to, defScope s_led_to, [], []⟩,
  ⟨("_law_hash", none), "_law_hash", "_law_hash", defArgs s__law_hash, defBody s__law_hash, defScope s__law_hash, [], []⟩,
  ⟨("_law_random", none), "_law_random", "_law_random", defArgs s__law_random, defBody s__law_random, defScope s__law_random, [], []⟩,
  ⟨("_law_cell", none), "_law_cell", "_law_cell", defArgs s__law_cell, defBody s__law_cell, defScope s__law_cell, [], []⟩,
  ⟨("_law_generator", none), "_law_generator", "_law_generator", defArgs s__law_generator, defBody s__law_generator, defScope s__law_generator, [], []⟩,
  ⟨("_law_pick", none), "_law_pick", "_law_pick", defArgs s__law_pick, defBody s__law_pick, defScope s__law_pick, [], []⟩,
  ⟨("_law_drawn_order", none), "_law_drawn_order", "_law_drawn_order", defArgs s__law_drawn_order, defBody s__law_drawn_order, defScope s__law_drawn_order, [], []⟩,
  ⟨("_law_number", none), "_law_number", "_law_number", defArgs s__law_number, defBody s__law_number, defScope s__law_number, [], []⟩,
  ⟨("_law_small", none), "_law_small", "_law_small", defArgs s__law_small, defBody s__law_small, defScope s__law_small, [], []⟩,
  ⟨("_law_any", none), "_law_any", "_law_any", defArgs s__law_any, defBody s__law_any, defScope s__law_any, [], []⟩,
  ⟨("_law_drawn_step", none), "_law_drawn_step", "_law_drawn_step", defArgs s__law_drawn_step, defBody s__law_drawn_step, defScope s__law_drawn_step, [], []⟩,
  ⟨("_law_drawn_call", none), "_law_drawn_call", "_law_drawn_call", defArgs s__law_drawn_call, defBody s__law_drawn_call, defScope s__law_drawn_call, [], []⟩,
  ⟨("_law_drawn_end", none), "_law_drawn_end", "_law_drawn_end", defArgs s__law_drawn_end, defBody s__law_drawn_end, defScope s__law_drawn_end, [], []⟩,
  ⟨("_law_drawn_block", none), "_law_drawn_block", "_law_drawn_block", defArgs s__law_drawn_block, defBody s__law_drawn_block, defScope s__law_drawn_block, [], []⟩,
  ⟨("_law_drawn_program", none), "_law_drawn_program", "_law_drawn_program", defArgs s__law_drawn_program, defBody s__law_drawn_program, defScope s__law_drawn_program, [], []⟩,
  ⟨("_law_target", none), "_law_target", "_law_target", defArgs s__law_target, defBody s__law_target, defScope s__law_target, [], []⟩,
  ⟨("_law_ways", none), "_law_ways", "_law_ways", defArgs s__law_ways, defBody s__law_ways, defScope s__law_ways, [], []⟩,
  ⟨("_law_refused", none), "_law_refused", "_law_refused", defArgs s__law_refused, defBody s__law_refused, defScope s__law_refused, [], []⟩,
  ⟨("law", none), "law", "law", defArgs s_law, defBody s_law, defScope s_law, [], []⟩,
  ⟨("ProbeError", some "__init__"), "__init__", "ProbeError.__init__", defArgs i_ProbeError, defBody i_ProbeError, defScope i_ProbeError, [], []⟩,
  ⟨("InvalidEdge", some "__init__"), "__init__", "InvalidEdge.__init__", defArgs i_InvalidEdge, defBody i_InvalidEdge, defScope i_InvalidEdge, [.non], []⟩,
  ⟨("InvalidProgram", some "__init__"), "__init__", "InvalidProgram.__init__", defArgs i_InvalidProgram, defBody i_InvalidProgram, defScope i_InvalidProgram, [.non], []⟩]
def ff : List He.Fa := [.free "ValueError", .free "all", .free "bool", .free "enumerate", .free "int", .free "isinstance", .free "len", .free "list", .free "max", .free "min", .free "range", .free "repr", .free "set", .free "str", .free "sum", .free "tuple", .free "zip", .glo "is_whole", .glo "is_sign", .glo "is_tuple_of", .glo "is_list_of", .glo "are_unlike", .glo "first_word", .glo "has_word_signs", .glo "is_word", .glo "are_names", .glo "is_part", .glo "has_parts", .glo "are_parameters", .glo "labels_of", .glo "why_unfit", .glo "first_wrong_end", .glo "is_end", .glo "is_step", .glo "first_wrong_step", .glo "is_block", .glo "first_wrong_block", .glo "is_function", .glo "first_wrong_form", .glo "first_wrong", .glo "is_program", .glo "edges_of", .glo "edges", .glo "label_place", .glo "blocks_of", .glo "first_label", .glo "end_of", .glo "led_to", .glo "_law_hash", .glo "_law_random", .glo "_law_cell", .glo "_law_generator", .glo "_law_pick", .glo "_law_drawn_order", .glo "_law_number", .glo "_law_small", .glo "_law_any", .glo "_law_drawn_step", .glo "_law_drawn_call", .glo "_law_drawn_end", .glo "_law_drawn_block", .glo "_law_drawn_program", .glo "_law_target", .glo "_law_ways", .glo "_law_refused", .glo "law", .glo "ENDS", .glo "STEPS", .glo "WAYS", .glo "ProbeError", .glo "InvalidEdge", .glo "InvalidProgram"]
def tt : List He.Tab := [(fun K => He.ga K "ENDS", t_ENDS.map (·.1)), (fun K => He.ga K "STEPS", t_STEPS.map (·.1)), (fun K => He.ga K "WAYS", t_WAYS.map (·.1))]
def exB (K : Kf) : Bool := conB K "GREATEST_COUNTER" d_GREATEST_COUNTER && (conB K "MOST_BLOCKS" d_MOST_BLOCKS && (conB K "MOST_FUNCTIONS" d_MOST_FUNCTIONS && (conB K "MOST_LETTERS" d_MOST_LETTERS && (conB K "MOST_PARAMETERS" d_MOST_PARAMETERS && (conB K "RESERVED" d_RESERVED && (conB K "SIGNS" d_SIGNS && (tabB K (He.ga K "ENDS") t_ENDS && (tabB K (He.ga K "STEPS") t_STEPS && (tabB K (He.ga K "WAYS") t_WAYS && (errB K "InvalidEdge" && (errB K "InvalidProgram" && (caughtB K "InvalidEdge" && (clsfnB K (He.ga K "ProbeError") (ini K "ProbeError") "__init__" && (veB K && (sysB K)))))))))))))))
def lo0 : List Str := ["ProbeError", "InvalidProgram", "InvalidEdge", "SIGNS", "is_whole", "is_sign", "is_tuple_of", "is_list_of", "are_unlike", "first_word", "has_parts", "MOST_LETTERS", "MOST_PARAMETERS", "RESERVED", "is_word", "has_word_signs", "are_parameters", "MOST_FUNCTIONS", "MOST_BLOCKS", "GREATEST_COUNTER", "STEPS", "ENDS", "WAYS", "is_program", "first_wrong", "first_wrong_form", "is_function", "first_wrong_block", "is_block", "first_wrong_step"]
def lo1 : List Str := ["is_step", "is_end", "is_part", "are_names", "first_wrong_end", "why_unfit", "labels_of", "edges", "edges_of", "led_to", "end_of", "first_label", "blocks_of", "label_place", "_law_hash", "_law_random", "_law_cell", "_law_generator", "_law_pick", "_law_drawn_order", "_law_number", "_law_small", "_law_any", "_law_drawn_step", "_law_drawn_call", "_law_drawn_end", "_law_drawn_block", "_law_drawn_program", "_law_target", "_law_ways"]
def lo2 : List Str := ["_law_refused"]
def loose : List Str := lo0 ++ lo1 ++ lo2
abbrev Rw : PySem.W.OpenRow := PySem.W.OpenLaw.row PySem.Challenge.rw_fewprobes_k03_whole_edges
abbrev hk : PySem.W.Hook := hookP 5 ff dd tt exB
def ob (s : PySem.W.SharedT) : AlP := obsP 5 ff dd tt exB (HandSHeadRun.getT s)
theorem ob_eq (s : PySem.W.SharedT) : ob s = hk.obs s.abs := obsP_eq (HandSHeadRun.getT_eq s)
theorem ranF (w : World) : HandSHeadRun.RunEq Rw (PySem.W.view Rw.prog [66]) hk ob 20000 loose (w.withFollow "special-get-raises" false) := fun os => by kernel_rfl
theorem ranT (w : World) : HandSHeadRun.RunEq Rw (PySem.W.view Rw.prog [66]) hk ob 20000 loose (w.withFollow "special-get-raises" true) := fun os => by kernel_rfl
theorem ran (w : World) : HandSHeadRun.RunEq Rw (PySem.W.view Rw.prog [66]) hk ob 20000 loose w :=
  PySem.W.byRow2 "special-get-raises" (P := fun w => HandSHeadRun.RunEq Rw (PySem.W.view Rw.prog [66]) hk ob 20000 loose w) ranF ranT w
end Pi.K03


set_option Elab.async false
set_option linter.all false
set_option maxRecDepth 100000
set_option maxHeartbeats 0
set_option autoImplicit false
namespace Pi.K03
open PySem PySem.Spec PyProof.Rows L2
theorem facts {P : Program} {w : World} {K : Kf} {h : Heap} {mg : Str → Option Value} (X : K.In h) (G : h.Ns mainGlobals mg) (c : SaysP ff dd tt exB w K) :
    mg "law" = some (.ref (He.ga K "law")) ∧ ∃ fd : FuncData, (∀ (s : Shared) (v : Value), BindsTo s fd ⟨[v], []⟩ [("script", v)]) ∧ ∀ base : Heap, K.In base → base.Ns mainGlobals mg → FnG P w K mg base (L2.CX P w) 14 (He.ga K "law") fd ["script"] (spOf ⟨K, ⟨He.ga K, P, w⟩, He.ga K⟩ f_law) := by
  have ex := c.more
  obtain ⟨x0, ex⟩ := He.ba ex
  obtain ⟨x1, ex⟩ := He.ba ex
  obtain ⟨x2, ex⟩ := He.ba ex
  obtain ⟨x3, ex⟩ := He.ba ex
  obtain ⟨x4, ex⟩ := He.ba ex
  obtain ⟨x5, ex⟩ := He.ba ex
  obtain ⟨x6, ex⟩ := He.ba ex
  obtain ⟨x7, ex⟩ := He.ba ex
  obtain ⟨x8, ex⟩ := He.ba ex
  obtain ⟨x9, ex⟩ := He.ba ex
  obtain ⟨x10, ex⟩ := He.ba ex
  obtain ⟨x11, ex⟩ := He.ba ex
  obtain ⟨x12, ex⟩ := He.ba ex
  obtain ⟨x13, ex⟩ := He.ba ex
  obtain ⟨x14, ex⟩ := He.ba ex
  have x15 := ex
  have n_ValueError := He.free_ok X G (c.t.d.fact 0 (f := .free "ValueError") rfl)
  have n_all := He.free_ok X G (c.t.d.fact 1 (f := .free "all") rfl)
  have n_bool := He.free_ok X G (c.t.d.fact 2 (f := .free "bool") rfl)
  have n_enumerate := He.free_ok X G (c.t.d.fact 3 (f := .free "enumerate") rfl)
  have n_int := He.free_ok X G (c.t.d.fact 4 (f := .free "int") rfl)
  have n_isinstance := He.free_ok X G (c.t.d.fact 5 (f := .free "isinstance") rfl)
  have n_len := He.free_ok X G (c.t.d.fact 6 (f := .free "len") rfl)
  have n_list := He.free_ok X G (c.t.d.fact 7 (f := .free "list") rfl)
  have n_max := He.free_ok X G (c.t.d.fact 8 (f := .free "max") rfl)
  have n_min := He.free_ok X G (c.t.d.fact 9 (f := .free "min") rfl)
  have n_range := He.free_ok X G (c.t.d.fact 10 (f := .free "range") rfl)
  have n_repr := He.free_ok X G (c.t.d.fact 11 (f := .free "repr") rfl)
  have n_set := He.free_ok X G (c.t.d.fact 12 (f := .free "set") rfl)
  have n_str := He.free_ok X G (c.t.d.fact 13 (f := .free "str") rfl)
  have n_sum := He.free_ok X G (c.t.d.fact 14 (f := .free "sum") rfl)
  have n_tuple := He.free_ok X G (c.t.d.fact 15 (f := .free "tuple") rfl)
  have n_zip := He.free_ok X G (c.t.d.fact 16 (f := .free "zip") rfl)
  have g_is_whole := He.glo_ok X G (c.t.d.fact 17 (f := .glo "is_whole") rfl)
  have g_is_sign := He.glo_ok X G (c.t.d.fact 18 (f := .glo "is_sign") rfl)
  have g_is_tuple_of := He.glo_ok X G (c.t.d.fact 19 (f := .glo "is_tuple_of") rfl)
  have g_is_list_of := He.glo_ok X G (c.t.d.fact 20 (f := .glo "is_list_of") rfl)
  have g_are_unlike := He.glo_ok X G (c.t.d.fact 21 (f := .glo "are_unlike") rfl)
  have g_first_word := He.glo_ok X G (c.t.d.fact 22 (f := .glo "first_word") rfl)
  have g_has_word_signs := He.glo_ok X G (c.t.d.fact 23 (f := .glo "has_word_signs") rfl)
  have g_is_word := He.glo_ok X G (c.t.d.fact 24 (f := .glo "is_word") rfl)
  have g_are_names := He.glo_ok X G (c.t.d.fact 25 (f := .glo "are_names") rfl)
  have g_is_part := He.glo_ok X G (c.t.d.fact 26 (f := .glo "is_part") rfl)
  have g_has_parts := He.glo_ok X G (c.t.d.fact 27 (f := .glo "has_parts") rfl)
  have g_are_parameters := He.glo_ok X G (c.t.d.fact 28 (f := .glo "are_parameters") rfl)
  have g_labels_of := He.glo_ok X G (c.t.d.fact 29 (f := .glo "labels_of") rfl)
  have g_why_unfit := He.glo_ok X G (c.t.d.fact 30 (f := .glo "why_unfit") rfl)
  have g_first_wrong_end := He.glo_ok X G (c.t.d.fact 31 (f := .glo "first_wrong_end") rfl)
  have g_is_end := He.glo_ok X G (c.t.d.fact 32 (f := .glo "is_end") rfl)
  have g_is_step := He.glo_ok X G (c.t.d.fact 33 (f := .glo "is_step") rfl)
  have g_first_wrong_step := He.glo_ok X G (c.t.d.fact 34 (f := .glo "first_wrong_step") rfl)
  have g_is_block := He.glo_ok X G (c.t.d.fact 35 (f := .glo "is_block") rfl)
  have g_first_wrong_block := He.glo_ok X G (c.t.d.fact 36 (f := .glo "first_wrong_block") rfl)
  have g_is_function := He.glo_ok X G (c.t.d.fact 37 (f := .glo "is_function") rfl)
  have g_first_wrong_form := He.glo_ok X G (c.t.d.fact 38 (f := .glo "first_wrong_form") rfl)
  have g_first_wrong := He.glo_ok X G (c.t.d.fact 39 (f := .glo "first_wrong") rfl)
  have g_is_program := He.glo_ok X G (c.t.d.fact 40 (f := .glo "is_program") rfl)
  have g_edges_of := He.glo_ok X G (c.t.d.fact 41 (f := .glo "edges_of") rfl)
  have g_edges := He.glo_ok X G (c.t.d.fact 42 (f := .glo "edges") rfl)
  have g_label_place := He.glo_ok X G (c.t.d.fact 43 (f := .glo "label_place") rfl)
  have g_blocks_of := He.glo_ok X G (c.t.d.fact 44 (f := .glo "blocks_of") rfl)
  have g_first_label := He.glo_ok X G (c.t.d.fact 45 (f := .glo "first_label") rfl)
  have g_end_of := He.glo_ok X G (c.t.d.fact 46 (f := .glo "end_of") rfl)
  have g_led_to := He.glo_ok X G (c.t.d.fact 47 (f := .glo "led_to") rfl)
  have g__law_hash := He.glo_ok X G (c.t.d.fact 48 (f := .glo "_law_hash") rfl)
  have g__law_random := He.glo_ok X G (c.t.d.fact 49 (f := .glo "_law_random") rfl)
  have g__law_cell := He.glo_ok X G (c.t.d.fact 50 (f := .glo "_law_cell") rfl)
  have g__law_generator := He.glo_ok X G (c.t.d.fact 51 (f := .glo "_law_generator") rfl)
  have g__law_pick := He.glo_ok X G (c.t.d.fact 52 (f := .glo "_law_pick") rfl)
  have g__law_drawn_order := He.glo_ok X G (c.t.d.fact 53 (f := .glo "_law_drawn_order") rfl)
  have g__law_number := He.glo_ok X G (c.t.d.fact 54 (f := .glo "_law_number") rfl)
  have g__law_small := He.glo_ok X G (c.t.d.fact 55 (f := .glo "_law_small") rfl)
  have g__law_any := He.glo_ok X G (c.t.d.fact 56 (f := .glo "_law_any") rfl)
  have g__law_drawn_step := He.glo_ok X G (c.t.d.fact 57 (f := .glo "_law_drawn_step") rfl)
  have g__law_drawn_call := He.glo_ok X G (c.t.d.fact 58 (f := .glo "_law_drawn_call") rfl)
  have g__law_drawn_end := He.glo_ok X G (c.t.d.fact 59 (f := .glo "_law_drawn_end") rfl)
  have g__law_drawn_block := He.glo_ok X G (c.t.d.fact 60 (f := .glo "_law_drawn_block") rfl)
  have g__law_drawn_program := He.glo_ok X G (c.t.d.fact 61 (f := .glo "_law_drawn_program") rfl)
  have g__law_target := He.glo_ok X G (c.t.d.fact 62 (f := .glo "_law_target") rfl)
  have g__law_ways := He.glo_ok X G (c.t.d.fact 63 (f := .glo "_law_ways") rfl)
  have g__law_refused := He.glo_ok X G (c.t.d.fact 64 (f := .glo "_law_refused") rfl)
  have g_law := He.glo_ok X G (c.t.d.fact 65 (f := .glo "law") rfl)
  have g_ENDS := He.glo_ok X G (c.t.d.fact 66 (f := .glo "ENDS") rfl)
  have g_STEPS := He.glo_ok X G (c.t.d.fact 67 (f := .glo "STEPS") rfl)
  have g_WAYS := He.glo_ok X G (c.t.d.fact 68 (f := .glo "WAYS") rfl)
  have g_ProbeError := He.glo_ok X G (c.t.d.fact 69 (f := .glo "ProbeError") rfl)
  have g_InvalidEdge := He.glo_ok X G (c.t.d.fact 70 (f := .glo "InvalidEdge") rfl)
  have g_InvalidProgram := He.glo_ok X G (c.t.d.fact 71 (f := .glo "InvalidProgram") rfl)
  obtain ⟨fd_is_whole, F_is_whole⟩ : ∃ fd, FunD K "is_whole" "is_whole" (defArgs s_is_whole) (defBody s_is_whole) (defScope s_is_whole) [] [] (He.ga K "is_whole") fd := c.t.d.def_ 0 rfl
  obtain ⟨fd_is_sign, F_is_sign⟩ : ∃ fd, FunD K "is_sign" "is_sign" (defArgs s_is_sign) (defBody s_is_sign) (defScope s_is_sign) [] [] (He.ga K "is_sign") fd := c.t.d.def_ 1 rfl
  obtain ⟨fd_is_tuple_of, F_is_tuple_of⟩ : ∃ fd, FunD K "is_tuple_of" "is_tuple_of" (defArgs s_is_tuple_of) (defBody s_is_tuple_of) (defScope s_is_tuple_of) [] [] (He.ga K "is_tuple_of") fd := c.t.d.def_ 2 rfl
  obtain ⟨fd_is_list_of, F_is_list_of⟩ : ∃ fd, FunD K "is_list_of" "is_list_of" (defArgs s_is_list_of) (defBody s_is_list_of) (defScope s_is_list_of) [] [] (He.ga K "is_list_of") fd := c.t.d.def_ 3 rfl
  obtain ⟨fd_are_unlike, F_are_unlike⟩ : ∃ fd, FunD K "are_unlike" "are_unlike" (defArgs s_are_unlike) (defBody s_are_unlike) (defScope s_are_unlike) [] [] (He.ga K "are_unlike") fd := c.t.d.def_ 4 rfl
  obtain ⟨fd_first_word, F_first_word⟩ : ∃ fd, FunD K "first_word" "first_word" (defArgs s_first_word) (defBody s_first_word) (defScope s_first_word) [] [] (He.ga K "first_word") fd := c.t.d.def_ 5 rfl
  obtain ⟨fd_has_word_signs, F_has_word_signs⟩ : ∃ fd, FunD K "has_word_signs" "has_word_signs" (defArgs s_has_word_signs) (defBody s_has_word_signs) (defScope s_has_word_signs) [] [] (He.ga K "has_word_signs") fd := c.t.d.def_ 6 rfl
  obtain ⟨fd_is_word, F_is_word⟩ : ∃ fd, FunD K "is_word" "is_word" (defArgs s_is_word) (defBody s_is_word) (defScope s_is_word) [] [] (He.ga K "is_word") fd := c.t.d.def_ 7 rfl
  obtain ⟨fd_are_names, F_are_names⟩ : ∃ fd, FunD K "are_names" "are_names" (defArgs s_are_names) (defBody s_are_names) (defScope s_are_names) [] [] (He.ga K "are_names") fd := c.t.d.def_ 8 rfl
  obtain ⟨fd_is_part, F_is_part⟩ : ∃ fd, FunD K "is_part" "is_part" (defArgs s_is_part) (defBody s_is_part) (defScope s_is_part) [] [] (He.ga K "is_part") fd := c.t.d.def_ 9 rfl
  obtain ⟨fd_has_parts, F_has_parts⟩ : ∃ fd, FunD K "has_parts" "has_parts" (defArgs s_has_parts) (defBody s_has_parts) (defScope s_has_parts) [] [] (He.ga K "has_parts") fd := c.t.d.def_ 10 rfl
  obtain ⟨fd_are_parameters, F_are_parameters⟩ : ∃ fd, FunD K "are_parameters" "are_parameters" (defArgs s_are_parameters) (defBody s_are_parameters) (defScope s_are_parameters) [] [] (He.ga K "are_parameters") fd := c.t.d.def_ 11 rfl
  obtain ⟨fd_labels_of, F_labels_of⟩ : ∃ fd, FunD K "labels_of" "labels_of" (defArgs s_labels_of) (defBody s_labels_of) (defScope s_labels_of) [] [] (He.ga K "labels_of") fd := c.t.d.def_ 12 rfl
  obtain ⟨fd_why_unfit, F_why_unfit⟩ : ∃ fd, FunD K "why_unfit" "why_unfit" (defArgs s_why_unfit) (defBody s_why_unfit) (defScope s_why_unfit) [] [] (He.ga K "why_unfit") fd := c.t.d.def_ 13 rfl
  obtain ⟨fd_first_wrong_end, F_first_wrong_end⟩ : ∃ fd, FunD K "first_wrong_end" "first_wrong_end" (defArgs s_first_wrong_end) (defBody s_first_wrong_end) (defScope s_first_wrong_end) [] [] (He.ga K "first_wrong_end") fd := c.t.d.def_ 14 rfl
  obtain ⟨fd_is_end, F_is_end⟩ : ∃ fd, FunD K "is_end" "is_end" (defArgs s_is_end) (defBody s_is_end) (defScope s_is_end) [] [] (He.ga K "is_end") fd := c.t.d.def_ 15 rfl
  obtain ⟨fd_is_step, F_is_step⟩ : ∃ fd, FunD K "is_step" "is_step" (defArgs s_is_step) (defBody s_is_step) (defScope s_is_step) [] [] (He.ga K "is_step") fd := c.t.d.def_ 16 rfl
  obtain ⟨fd_first_wrong_step, F_first_wrong_step⟩ : ∃ fd, FunD K "first_wrong_step" "first_wrong_step" (defArgs s_first_wrong_step) (defBody s_first_wrong_step) (defScope s_first_wrong_step) [] [] (He.ga K "first_wrong_step") fd := c.t.d.def_ 17 rfl
  obtain ⟨fd_is_block, F_is_block⟩ : ∃ fd, FunD K "is_block" "is_block" (defArgs s_is_block) (defBody s_is_block) (defScope s_is_block) [] [] (He.ga K "is_block") fd := c.t.d.def_ 18 rfl
  obtain ⟨fd_first_wrong_block, F_first_wrong_block⟩ : ∃ fd, FunD K "first_wrong_block" "first_wrong_block" (defArgs s_first_wrong_block) (defBody s_first_wrong_block) (defScope s_first_wrong_block) [] [] (He.ga K "first_wrong_block") fd := c.t.d.def_ 19 rfl
  obtain ⟨fd_is_function, F_is_function⟩ : ∃ fd, FunD K "is_function" "is_function" (defArgs s_is_function) (defBody s_is_function) (defScope s_is_function) [] [] (He.ga K "is_function") fd := c.t.d.def_ 20 rfl
  obtain ⟨fd_first_wrong_form, F_first_wrong_form⟩ : ∃ fd, FunD K "first_wrong_form" "first_wrong_form" (defArgs s_first_wrong_form) (defBody s_first_wrong_form) (defScope s_first_wrong_form) [] [] (He.ga K "first_wrong_form") fd := c.t.d.def_ 21 rfl
  obtain ⟨fd_first_wrong, F_first_wrong⟩ : ∃ fd, FunD K "first_wrong" "first_wrong" (defArgs s_first_wrong) (defBody s_first_wrong) (defScope s_first_wrong) [] [] (He.ga K "first_wrong") fd := c.t.d.def_ 22 rfl
  obtain ⟨fd_is_program, F_is_program⟩ : ∃ fd, FunD K "is_program" "is_program" (defArgs s_is_program) (defBody s_is_program) (defScope s_is_program) [] [] (He.ga K "is_program") fd := c.t.d.def_ 23 rfl
  obtain ⟨fd_edges_of, F_edges_of⟩ : ∃ fd, FunD K "edges_of" "edges_of" (defArgs s_edges_of) (defBody s_edges_of) (defScope s_edges_of) [] [] (He.ga K "edges_of") fd := c.t.d.def_ 24 rfl
  obtain ⟨fd_edges, F_edges⟩ : ∃ fd, FunD K "edges" "edges" (defArgs s_edges) (defBody s_edges) (defScope s_edges) [] [] (He.ga K "edges") fd := c.t.d.def_ 25 rfl
  obtain ⟨fd_label_place, F_label_place⟩ : ∃ fd, FunD K "label_place" "label_place" (defArgs s_label_place) (defBody s_label_place) (defScope s_label_place) [] [] (He.ga K "label_place") fd := c.t.d.def_ 26 rfl
  obtain ⟨fd_blocks_of, F_blocks_of⟩ : ∃ fd, FunD K "blocks_of" "blocks_of" (defArgs s_blocks_of) (defBody s_blocks_of) (defScope s_blocks_of) [] [] (He.ga K "blocks_of") fd := c.t.d.def_ 27 rfl
  obtain ⟨fd_first_label, F_first_label⟩ : ∃ fd, FunD K "first_label" "first_label" (defArgs s_first_label) (defBody s_first_label) (defScope s_first_label) [] [] (He.ga K "first_label") fd := c.t.d.def_ 28 rfl
  obtain ⟨fd_end_of, F_end_of⟩ : ∃ fd, FunD K "end_of" "end_of" (defArgs s_end_of) (defBody s_end_of) (defScope s_end_of) [] [] (He.ga K "end_of") fd := c.t.d.def_ 29 rfl
  obtain ⟨fd_led_to, F_led_to⟩ : ∃ fd, FunD K "led_to" "led_to" (defArgs s_led_to) (defBody s_led_to) (defScope s_led_to) [] [] (He.ga K "led_to") fd := c.t.d.def_ 30 rfl
  obtain ⟨fd__law_hash, F__law_hash⟩ : ∃ fd, FunD K "_law_hash" "_law_hash" (defArgs s__law_hash) (defBody s__law_hash) (defScope s__law_hash) [] [] (He.ga K "_law_hash") fd := c.t.d.def_ 31 rfl
  obtain ⟨fd__law_random, F__law_random⟩ : ∃ fd, FunD K "_law_random" "_law_random" (defArgs s__law_random) (defBody s__law_random) (defScope s__law_random) [] [] (He.ga K "_law_random") fd := c.t.d.def_ 32 rfl
  obtain ⟨fd__law_cell, F__law_cell⟩ : ∃ fd, FunD K "_law_cell" "_law_cell" (defArgs s__law_cell) (defBody s__law_cell) (defScope s__law_cell) [] [] (He.ga K "_law_cell") fd := c.t.d.def_ 33 rfl
  obtain ⟨fd__law_generator, F__law_generator⟩ : ∃ fd, FunD K "_law_generator" "_law_generator" (defArgs s__law_generator) (defBody s__law_generator) (defScope s__law_generator) [] [] (He.ga K "_law_generator") fd := c.t.d.def_ 34 rfl
  obtain ⟨fd__law_pick, F__law_pick⟩ : ∃ fd, FunD K "_law_pick" "_law_pick" (defArgs s__law_pick) (defBody s__law_pick) (defScope s__law_pick) [] [] (He.ga K "_law_pick") fd := c.t.d.def_ 35 rfl
  obtain ⟨fd__law_drawn_order, F__law_drawn_order⟩ : ∃ fd, FunD K "_law_drawn_order" "_law_drawn_order" (defArgs s__law_drawn_order) (defBody s__law_drawn_order) (defScope s__law_drawn_order) [] [] (He.ga K "_law_drawn_order") fd := c.t.d.def_ 36 rfl
  obtain ⟨fd__law_number, F__law_number⟩ : ∃ fd, FunD K "_law_number" "_law_number" (defArgs s__law_number) (defBody s__law_number) (defScope s__law_number) [] [] (He.ga K "_law_number") fd := c.t.d.def_ 37 rfl
  obtain ⟨fd__law_small, F__law_small⟩ : ∃ fd, FunD K "_law_small" "_law_small" (defArgs s__law_small) (defBody s__law_small) (defScope s__law_small) [] [] (He.ga K "_law_small") fd := c.t.d.def_ 38 rfl
  obtain ⟨fd__law_any, F__law_any⟩ : ∃ fd, FunD K "_law_any" "_law_any" (defArgs s__law_any) (defBody s__law_any) (defScope s__law_any) [] [] (He.ga K "_law_any") fd := c.t.d.def_ 39 rfl
  obtain ⟨fd__law_drawn_step, F__law_drawn_step⟩ : ∃ fd, FunD K "_law_drawn_step" "_law_drawn_step" (defArgs s__law_drawn_step) (defBody s__law_drawn_step) (defScope s__law_drawn_step) [] [] (He.ga K "_law_drawn_step") fd := c.t.d.def_ 40 rfl
  obtain ⟨fd__law_drawn_call, F__law_drawn_call⟩ : ∃ fd, FunD K "_law_drawn_call" "_law_drawn_call" (defArgs s__law_drawn_call) (defBody s__law_drawn_call) (defScope s__law_drawn_call) [] [] (He.ga K "_law_drawn_call") fd := c.t.d.def_ 41 rfl
  obtain ⟨fd__law_drawn_end, F__law_drawn_end⟩ : ∃ fd, FunD K "_law_drawn_end" "_law_drawn_end" (defArgs s__law_drawn_end) (defBody s__law_drawn_end) (defScope s__law_drawn_end) [] [] (He.ga K "_law_drawn_end") fd := c.t.d.def_ 42 rfl
  obtain ⟨fd__law_drawn_block, F__law_drawn_block⟩ : ∃ fd, FunD K "_law_drawn_block" "_law_drawn_block" (defArgs s__law_drawn_block) (defBody s__law_drawn_block) (defScope s__law_drawn_block) [] [] (He.ga K "_law_drawn_block") fd := c.t.d.def_ 43 rfl
  obtain ⟨fd__law_drawn_program, F__law_drawn_program⟩ : ∃ fd, FunD K "_law_drawn_program" "_law_drawn_program" (defArgs s__law_drawn_program) (defBody s__law_drawn_program) (defScope s__law_drawn_program) [] [] (He.ga K "_law_drawn_program") fd := c.t.d.def_ 44 rfl
  obtain ⟨fd__law_target, F__law_target⟩ : ∃ fd, FunD K "_law_target" "_law_target" (defArgs s__law_target) (defBody s__law_target) (defScope s__law_target) [] [] (He.ga K "_law_target") fd := c.t.d.def_ 45 rfl
  obtain ⟨fd__law_ways, F__law_ways⟩ : ∃ fd, FunD K "_law_ways" "_law_ways" (defArgs s__law_ways) (defBody s__law_ways) (defScope s__law_ways) [] [] (He.ga K "_law_ways") fd := c.t.d.def_ 46 rfl
  obtain ⟨fd__law_refused, F__law_refused⟩ : ∃ fd, FunD K "_law_refused" "_law_refused" (defArgs s__law_refused) (defBody s__law_refused) (defScope s__law_refused) [] [] (He.ga K "_law_refused") fd := c.t.d.def_ 47 rfl
  obtain ⟨fd_law, F_law⟩ : ∃ fd, FunD K "law" "law" (defArgs s_law) (defBody s_law) (defScope s_law) [] [] (He.ga K "law") fd := c.t.d.def_ 48 rfl
  obtain ⟨fd_ProbeError, F_ProbeError⟩ : ∃ fd, FunD K "__init__" "ProbeError.__init__" (defArgs i_ProbeError) (defBody i_ProbeError) (defScope i_ProbeError) [] [] (ini K "ProbeError") fd := c.t.d.def_ 49 rfl
  obtain ⟨fd_InvalidEdge, F_InvalidEdge⟩ : ∃ fd, FunD K "__init__" "InvalidEdge.__init__" (defArgs i_InvalidEdge) (defBody i_InvalidEdge) (defScope i_InvalidEdge) [.non] [] (ini K "InvalidEdge") fd := c.t.d.def_ 50 rfl
  obtain ⟨fd_InvalidProgram, F_InvalidProgram⟩ : ∃ fd, FunD K "__init__" "InvalidProgram.__init__" (defArgs i_InvalidProgram) (defBody i_InvalidProgram) (defScope i_InvalidProgram) [.non] [] (ini K "InvalidProgram") fd := c.t.d.def_ 51 rfl
  refine ⟨g_law, fd_law, fun s v => F_law.bindsA (ps := ["script"]) (fun _ _ _ _ _ _ us hl => match us, hl with | [_], _ => rfl) s [v] rfl, fun base KB GB => ?_⟩
  have I_ProbeError : FnOk P w K mg base (L2.CX P w) 1 (ini K "ProbeError") fd_ProbeError ["self"] (spI0 K) := init_ProbeError n_ValueError (veB_ok x14) F_ProbeError
  have I_InvalidEdge : FnOk P w K mg base (L2.CX P w) 2 (ini K "InvalidEdge") fd_InvalidEdge ["self", "value"] (spI1 K) := init_InvalidEdge (clsfnB_ok x13) g_ProbeError I_ProbeError (F_ProbeError.bindsN fun _ _ _ _ _ _ us hl => match us, hl with | [_], _ => rfl) F_InvalidEdge
  have I_InvalidProgram : FnOk P w K mg base (L2.CX P w) 2 (ini K "InvalidProgram") fd_InvalidProgram ["self", "value"] (spI1 K) := init_InvalidProgram (clsfnB_ok x13) g_ProbeError I_ProbeError (F_ProbeError.bindsN fun _ _ _ _ _ _ us hl => match us, hl with | [_], _ => rfl) F_InvalidProgram
  have B : Amb P w K mg base (He.ga K) (He.ga K) := {
    b_all := n_all
    b_bool := n_bool
    b_enumerate := n_enumerate
    b_int := n_int
    b_isinstance := n_isinstance
    b_len := n_len
    b_list := n_list
    b_max := n_max
    b_min := n_min
    b_range := n_range
    b_repr := n_repr
    b_set := n_set
    b_str := n_str
    b_sum := n_sum
    b_tuple := n_tuple
    b_zip := n_zip
    k_GREATEST_COUNTER := conB_ok X G x0
    k_MOST_BLOCKS := conB_ok X G x1
    k_MOST_FUNCTIONS := conB_ok X G x2
    k_MOST_LETTERS := conB_ok X G x3
    k_MOST_PARAMETERS := conB_ok X G x4
    k_RESERVED := conB_ok X G x5
    k_SIGNS := conB_ok X G x6
    g_ENDS := g_ENDS
    t_ENDS := ktab_ok (tab_of c.t 0 rfl) x7
    g_STEPS := g_STEPS
    t_STEPS := ktab_ok (tab_of c.t 1 rfl) x8
    g_WAYS := g_WAYS
    t_WAYS := ktab_ok (tab_of c.t 2 rfl) x9
    e_InvalidEdge := errB_ok x10 g_InvalidEdge I_InvalidEdge (bdV F_InvalidEdge (fun _ _ _ _ _ _ _ us its hu hi => match us, hu, its, hi with | [_, _], _, [_], _ => ⟨_, rfl, rfl⟩))
    e_InvalidProgram := errB_ok x11 g_InvalidProgram I_InvalidProgram (bdV F_InvalidProgram (fun _ _ _ _ _ _ _ us its hu hi => match us, hu, its, hi with | [_, _], _, [_], _ => ⟨_, rfl, rfl⟩))
    c_InvalidEdge := g_InvalidEdge
    f_InvalidEdge := caughtB_ok x12
    sm := sysB_ok x15 }
  have D_is_whole := ok_is_whole B F_is_whole g_is_whole 
  have D_is_sign := ok_is_sign B F_is_sign g_is_sign 
  have D_is_tuple_of := ok_is_tuple_of B F_is_tuple_of g_is_tuple_of 
  have D_is_list_of := ok_is_list_of B F_is_list_of g_is_list_of 
  have D_are_unlike := ok_are_unlike B F_are_unlike g_are_unlike 
  have D_first_word := ok_first_word B F_first_word g_first_word 
  have D_has_word_signs := ok_has_word_signs B F_has_word_signs g_has_word_signs 
  have D_is_word := ok_is_word B F_is_word g_is_word D_has_word_signs
  have D_are_names := ok_are_names B F_are_names g_are_names D_is_word
  have D_is_part := ok_is_part B F_is_part g_is_part D_is_word D_are_names D_is_sign D_is_whole
  have D_has_parts := ok_has_parts B F_has_parts g_has_parts D_is_part
  have D_are_parameters := ok_are_parameters B F_are_parameters g_are_parameters D_are_unlike D_is_word D_is_list_of
  have D_labels_of := ok_labels_of B F_labels_of g_labels_of 
  have D_why_unfit := ok_why_unfit B F_why_unfit g_why_unfit D_labels_of
  have D_first_wrong_end := ok_first_wrong_end B F_first_wrong_end g_first_wrong_end D_why_unfit
  have D_is_end := ok_is_end B F_is_end g_is_end D_has_parts D_is_part D_first_word
  have D_is_step := ok_is_step B F_is_step g_is_step D_has_parts D_is_part D_first_word
  have D_first_wrong_step := ok_first_wrong_step B F_first_wrong_step g_first_wrong_step D_is_end D_is_step
  have D_is_block := ok_is_block B F_is_block g_is_block D_is_word D_is_tuple_of
  have D_first_wrong_block := ok_first_wrong_block B F_first_wrong_block g_first_wrong_block D_first_wrong_step D_is_block
  have D_is_function := ok_is_function B F_is_function g_is_function D_is_list_of D_are_parameters D_is_word D_is_tuple_of
  have D_first_wrong_form := ok_first_wrong_form B F_first_wrong_form g_first_wrong_form D_first_wrong_block D_is_function
  have D_first_wrong := ok_first_wrong B F_first_wrong g_first_wrong D_first_wrong_end D_first_wrong_form D_is_list_of D_is_tuple_of
  have D_is_program := ok_is_program B F_is_program g_is_program D_first_wrong
  have D_edges_of := ok_edges_of B F_edges_of g_edges_of 
  have D_edges := ok_edges B F_edges g_edges D_edges_of D_is_program
  have KW_edges := kw_edges B F_edges g_edges D_edges_of D_is_program
  have D_label_place := ok_label_place B F_label_place g_label_place 
  have D_blocks_of := ok_blocks_of B F_blocks_of g_blocks_of 
  have D_first_label := ok_first_label B F_first_label g_first_label D_blocks_of
  have D_end_of := ok_end_of B F_end_of g_end_of D_blocks_of
  have D_led_to := ok_led_to B F_led_to g_led_to D_label_place D_first_label D_end_of D_edges_of D_is_program
  have KW_led_to := kw_led_to B F_led_to g_led_to D_label_place D_first_label D_end_of D_edges_of D_is_program
  have D__law_hash := ok__law_hash B F__law_hash g__law_hash 
  have D__law_random := ok__law_random B F__law_random g__law_random D__law_hash
  have D__law_cell := ok__law_cell B F__law_cell g__law_cell 
  have D__law_generator := ok__law_generator B F__law_generator g__law_generator D__law_cell
  have D__law_pick := ok__law_pick B F__law_pick g__law_pick D__law_random
  have D__law_drawn_order := ok__law_drawn_order B F__law_drawn_order g__law_drawn_order D__law_random
  have D__law_number := ok__law_number B F__law_number g__law_number D__law_random
  have D__law_small := ok__law_small B F__law_small g__law_small D__law_pick
  have D__law_any := ok__law_any B F__law_any g__law_any D__law_pick
  have D__law_drawn_step := ok__law_drawn_step B F__law_drawn_step g__law_drawn_step D__law_small D__law_any D__law_pick D__law_random D__law_number
  have D__law_drawn_call := ok__law_drawn_call B F__law_drawn_call g__law_drawn_call D__law_pick D__law_small D__law_any
  have D__law_drawn_end := ok__law_drawn_end B F__law_drawn_end g__law_drawn_end D__law_drawn_call D__law_pick D__law_small D__law_any D__law_random
  have D__law_drawn_block := ok__law_drawn_block B F__law_drawn_block g__law_drawn_block D__law_drawn_end D__law_small D__law_random D__law_drawn_step
  have D__law_drawn_program := ok__law_drawn_program B F__law_drawn_program g__law_drawn_program D__law_drawn_block D__law_random D__law_drawn_order
  have D__law_target := ok__law_target B F__law_target g__law_target 
  have D__law_ways := ok__law_ways B F__law_ways g__law_ways 
  have D__law_refused := ok__law_refused B F__law_refused g__law_refused D_led_to
  exact okG_law B F_law g_law D__law_refused D__law_random D_led_to D_edges D__law_ways D__law_target D__law_drawn_program D__law_generator KW_led_to KW_edges
end Pi.K03


open PySem PySem.W PySem.Calls PyProof.Rows
theorem PySem.Challenge.cw_fewprobes_k03_whole_edges_holds : PySem.Challenge.rw_fewprobes_k03_whole_edges.Holds := by
  w_on; o_law
  refine HandSHeadRun.head_any (r := OpenLaw.row PySem.Challenge.rw_fewprobes_k03_whole_edges) (q := view (OpenLaw.row PySem.Challenge.rw_fewprobes_k03_whole_edges).prog [66]) (H := Pi.K03.hk) (ob := Pi.K03.ob) (M := 20000) (loose := Pi.K03.loose) (d := HandSHeadRun.topDef (OpenLaw.row PySem.Challenge.rw_fewprobes_k03_whole_edges).prog 66) (kwd := []) Pi.K03.ob_eq
    (by kernel_rfl) (fun s => by kernel_rfl) Pi.K03.ran (by kernel_rfl) (by kernel_rfl) (by kernel_rfl) (by rfl) (by first | assumption | decide +kernel) (by decide +kernel) ⟨rfl, rfl, rfl, rfl, rfl, by decide +kernel⟩ ?hw ?hc
  case hw => w_witness2
  case hc =>
    refine Pi.walkG (l := PySem.Challenge.rw_fewprobes_k03_whole_edges) (n := 63) (k := 14) (x := "script") (CX := fun w => L2.CX (PySem.Challenge.rw_fewprobes_k03_whole_edges).prog w) rfl (by decide) (by kernel_rfl) ⟨rfl, by decide, by decide⟩ ?F (fun _ _ _ _ _ z => Pi.noCX z)
    intro w mg fa h Y G hmg0
    obtain ⟨K, KX, c⟩ := Y
    have hmg : mg ("law" : PySem.Str) = some (.ref fa) := by
      have e : (HandSHeadRun.topDef (OpenLaw.row PySem.Challenge.rw_fewprobes_k03_whole_edges).prog 66).name = ("law" : PySem.Str) := by kernel_rfl
      rw [← e]
      exact hmg0
    obtain ⟨g, fd, hb, hF⟩ := Pi.K03.facts (P := (PySem.Challenge.rw_fewprobes_k03_whole_edges).prog) (w := w) KX G c
    have e := hmg.symm.trans g
    cases e
    exact ⟨K, fd, Pi.spOf _ Pi.K03.f_law, KX, hb, fun H a ns hl _ hS => Pi.sp_true (Pi.K03.law_true ns hl) hS, hF⟩


