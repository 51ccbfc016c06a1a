import PyProof.Rows.All
import Wide.All
import OpenK.AllK
import Wide.FinOn
import HandS.ForMost
import HandS.ForExc
import HandS.Walk
import HandS.Wide
import HandS.Gcd
import HandS.Zip
import HandS.CallSlots
import HandS.IsInst
import HandS.Style
import PyProof.ListMulRoad
import PyProof.FactsAll.tuple_2
import HandS.TupAny
import HandS.TupMul
import HandS.TupLe
import HandS.Deep
import HandS.RaiseMore
import HandS.Small
import HandS.Iter
import KE.GoesEnum
import PyProof.StrLawsRepr
import PySem.Challenge.RW_ledlevels_k82_plans_by_books
import Open.SpecLaws
import KE.OsGo
import HandS.EndBits
set_option Elab.async false
set_option linter.all false
set_option maxRecDepth 100000
/-! Trees: values of Python as plain trees (T), a store of what may change (Sto), and what the layer HandS says of them. -/
namespace TP
open PySem PySem.Spec PyProof.Rows L2

/-- a value as a tree: tuples, and lists and dicts that nobody changes any more, are what is in them; ref a: the thing at a that may change, a def, a class -/
inductive T where
  | non | bl (b : Bool) | int (i : Int) | str (x : Str) | tup (ts : List T) | lst (ts : List T) | scr (ts : List T)
  | dct (ks : List Key) (ts : List T) | ref (a : Addr) | ty (n : String)
  deriving Inhabited
/-- what stands at an address and may change -/
inductive Cell where
  | lst (ts : List T) | dct (kvs : List (Key × T)) | ins (C : Addr) (fs : List (Str × T))
abbrev Sto := Addr → Option Cell
def up (S : Sto) (a : Addr) (c : Cell) : Sto := fun b => if b = a then some c else S b
def rm (S : Sto) (a : Addr) : Sto := fun b => if b = a then none else S b
theorem up_same {S : Sto} {a : Addr} {c : Cell} : up S a c a = some c := if_pos rfl
theorem up_ne {S : Sto} {a b : Addr} {c : Cell} (h : b ≠ a) : up S a c b = S b := if_neg h
theorem up_up {S : Sto} {a : Addr} {c d : Cell} : up (up S a c) a d = up S a d := by
  funext b; unfold up; split <;> rfl
theorem rm_up {S : Sto} {a : Addr} {c : Cell} (h : S a = none) : rm (up S a c) a = S := by
  funext b
  by_cases e : b = a
  · subst e; rw [h]; exact if_pos rfl
  · show (if b = a then none else (if b = a then some c else S b)) = S b
    rw [if_neg e, if_neg e]
theorem rm_ne {S : Sto} {a b : Addr} (h : b ≠ a) : rm S a b = S b := if_neg h
theorem rm_same {S : Sto} {a : Addr} : rm S a a = none := if_pos rfl

section
variable (K : PySem.W.Frag) (z : Addr → Prop) (H : Hp) (S : Sto)
mutual
inductive RT : T → V → Prop
  | non : RT .non .non
  | bl (b : Bool) : RT (.bl b) (.bl b)
  | int (i : Int) : RT (.int i) (.int i)
  | str (x : Str) : RT (.str x) (.str x)
  | ty (n : String) : RT (.ty n) (.ty n)
  | ref (a : Addr) : RT (.ref a) (.ref a)
  | tup {a : Addr} {vs : List V} {ts : List T} (h : H a = some (.tup vs)) (n : S a = none ∧ ¬ z a) (r : RTs ts vs) : RT (.tup ts) (.ref a)
  | tupK {a : Addr} {vs : List V} {ts : List T} (h : ∃ (o : Obj) (its : Array Value) (n : Nat), K.lookup a = some o ∧ o.cls = .type "tuple" ∧ o.data = .seq its n ∧ its.size ≤ sizeLine ∧ Vals vs its.toList) (r : RTs ts vs) : RT (.tup ts) (.ref a)
  | lst {a : Addr} {vs : List V} {ts : List T} (h : H a = some (.lst vs)) (n : S a = none ∧ ¬ z a) (r : RTs ts vs) : RT (.lst ts) (.ref a)
  | scr {a : Addr} {o : Obj} {vs : List V} {ts : List T} (h : H a = some (.frz o (.lst vs))) (n : S a = none ∧ ¬ z a) (r : RTs ts vs) : RT (.scr ts) (.ref a)
  | dct {a : Addr} {kvs : List (Key × V)} {ks : List Key} {ts : List T} (h : H a = some (.dK kvs)) (n : S a = none ∧ ¬ z a) (e : ks = kvs.map (·.1)) (r : RTs ts (kvs.map (·.2))) : RT (.dct ks ts) (.ref a)
inductive RTs : List T → List V → Prop
  | nil : RTs [] []
  | cons {t : T} {v : V} {ts : List T} {vs : List V} (h : RT t v) (r : RTs ts vs) : RTs (t :: ts) (v :: vs)
end
def CRel (a : Addr) : Cell → Prop
  | .lst ts => ∃ vs, H a = some (.lst vs) ∧ RTs K z H S ts vs
  | .dct kvs => ∃ kvs', H a = some (.dK kvs') ∧ kvs.map (·.1) = kvs'.map (·.1) ∧ RTs K z H S (kvs.map (·.2)) (kvs'.map (·.2))
  | .ins C fs => ∃ dx fs', H a = some (.ins C dx fs') ∧ fs.map (·.1) = fs'.map (·.1) ∧ RTs K z H S (fs.map (·.2)) (fs'.map (·.2))
/-- the store tells truly -/
structure HR : Prop where
  at_ : ∀ a c, S a = some c → CRel K z H S a c
  hid : ∀ a, z a → (∃ o, H a = some o) ∧ S a = none
end
/-- what the store does not know stays as it is -/
def Ext (H : Hp) (S : Sto) (H' : Hp) (S' : Sto) : Prop := ∀ b o, H b = some o → S b = none → H' b = some o ∧ S' b = none
theorem Ext.refl (H : Hp) (S : Sto) : Ext H S H S := fun _ _ h n => ⟨h, n⟩
theorem Ext.trans {H H1 H2 : Hp} {S S1 S2 : Sto} (a : Ext H S H1 S1) (b : Ext H1 S1 H2 S2) : Ext H S H2 S2 := fun c o h n => b c o (a c o h n).1 (a c o h n).2
section
variable {K : PySem.W.Frag} {z : Addr → Prop} {H H' : Hp} {S S' : Sto}
mutual
theorem RT.mono (x : Ext H S H' S') : ∀ (t : T) (v : V), RT K z H S t v → RT K z H' S' t v
  | .non, _, h => by cases h; exact .non
  | .bl _, _, h => by cases h; exact .bl _
  | .int _, _, h => by cases h; exact .int _
  | .str _, _, h => by cases h; exact .str _
  | .ty _, _, h => by cases h; exact .ty _
  | .ref _, _, h => by cases h; exact .ref _
  | .tup ts, _, h => by
    cases h with
    | tup h n r => exact .tup (x _ _ h n.1).1 ⟨(x _ _ h n.1).2, n.2⟩ (RTs.mono x ts _ r)
    | tupK h r => exact .tupK h (RTs.mono x ts _ r)
  | .lst ts, _, h => by
    cases h with
    | lst h n r => exact .lst (x _ _ h n.1).1 ⟨(x _ _ h n.1).2, n.2⟩ (RTs.mono x ts _ r)
  | .scr ts, _, h => by
    cases h with
    | scr h n r => exact .scr (x _ _ h n.1).1 ⟨(x _ _ h n.1).2, n.2⟩ (RTs.mono x ts _ r)
  | .dct ks ts, _, h => by
    cases h with
    | dct h n e r => exact .dct (x _ _ h n.1).1 ⟨(x _ _ h n.1).2, n.2⟩ e (RTs.mono x ts _ r)
theorem RTs.mono (x : Ext H S H' S') : ∀ (ts : List T) (vs : List V), RTs K z H S ts vs → RTs K z H' S' ts vs
  | [], _, h => by cases h; exact .nil
  | t :: ts, _, h => by
    cases h with
    | cons h r => exact .cons (RT.mono x t _ h) (RTs.mono x ts _ r)
end
theorem RT.mn {t : T} {v : V} (h : RT K z H S t v) (x : Ext H S H' S') : RT K z H' S' t v := RT.mono x _ _ h
theorem RTs.mn {t : List T} {v : List V} (h : RTs K z H S t v) (x : Ext H S H' S') : RTs K z H' S' t v := RTs.mono x _ _ h
theorem CRel.mn {a : Addr} {c : Cell} (h : CRel K z H S a c) (x : Ext H S H' S') (e : H' a = H a) : CRel K z H' S' a c := by
  cases c with
  | lst ts => obtain ⟨vs, h1, h2⟩ := h; exact ⟨vs, e.trans h1, h2.mn x⟩
  | dct kvs => obtain ⟨vs, h1, h2, h3⟩ := h; exact ⟨vs, e.trans h1, h2, h3.mn x⟩
  | ins C fs => obtain ⟨dx, vs, h1, h2, h3⟩ := h; exact ⟨dx, vs, e.trans h1, h2, h3.mn x⟩
theorem CRel.there {a : Addr} {c : Cell} (h : CRel K z H S a c) : ∃ o, H a = some o := by
  cases c with
  | lst ts => obtain ⟨vs, h1, _⟩ := h; exact ⟨_, h1⟩
  | dct kvs => obtain ⟨vs, h1, _⟩ := h; exact ⟨_, h1⟩
  | ins C fs => obtain ⟨dx, vs, h1, _⟩ := h; exact ⟨_, h1⟩
theorem HR.non (h : HR K z H S) {a : Addr} (n : H a = none) : S a = none := by
  cases e : S a with
  | none => rfl
  | some c => obtain ⟨o, q⟩ := (h.at_ a c e).there; rw [n] at q; cases q
theorem HR.fr (h : HR K z H S) {a : Addr} (n : H a = none) : S a = none ∧ ¬ z a := ⟨h.non n, fun q => by
  obtain ⟨⟨o, e⟩, _⟩ := h.hid a q; rw [n] at e; cases e⟩
/-- the general step: what is known behind it was known and stays, or is said anew -/
theorem HR.step (h : HR K z H S) (x : Ext H S H' S') (k : ∀ b c, S' b = some c → (S b = some c ∧ H' b = H b) ∨ CRel K z H' S' b c) : HR K z H' S' := ⟨fun b c e => by
  rcases k b c e with ⟨q, r⟩ | q
  · exact (h.at_ b c q).mn x r
  · exact q, fun a q => by
  obtain ⟨⟨o, e⟩, n⟩ := h.hid a q
  exact ⟨⟨o, (x a o e n).1⟩, (x a o e n).2⟩⟩
theorem Ext.new {a : Addr} {o : HO} (n : H a = none) : Ext H S (upd H a o) S := fun b u h q => ⟨by rw [upd_ne (ne_of_none h n)]; exact h, q⟩
theorem HR.new (h : HR K z H S) {a : Addr} {o : HO} (n : H a = none) : HR K z (upd H a o) S :=
  h.step (Ext.new n) fun b c e => .inl ⟨e, upd_ne fun w => by subst w; rw [h.non n] at e; cases e⟩
theorem Ext.newS {a : Addr} {o : HO} {c : Cell} (n : H a = none) : Ext H S (upd H a o) (up S a c) := fun b u h q => by
  have ne := ne_of_none h n
  exact ⟨by rw [upd_ne ne]; exact h, by rw [up_ne ne]; exact q⟩
theorem HR.newS (h : HR K z H S) {a : Addr} {o : HO} {c : Cell} (n : H a = none) (r : CRel K z (upd H a o) (up S a c) a c) : HR K z (upd H a o) (up S a c) :=
  h.step (Ext.newS n) fun b d e => by
    by_cases w : b = a
    · subst w; rw [up_same] at e; cases e; exact .inr r
    · rw [up_ne w] at e; exact .inl ⟨e, upd_ne w⟩
theorem Ext.write {a : Addr} {o : HO} {c c' : Cell} (e : S a = some c) : Ext H S (upd H a o) (up S a c') := fun b u h q => by
  have ne : b ≠ a := fun w => by subst w; rw [e] at q; cases q
  exact ⟨by rw [upd_ne ne]; exact h, by rw [up_ne ne]; exact q⟩
theorem HR.write (h : HR K z H S) {a : Addr} {o : HO} {c c' : Cell} (e : S a = some c) (r : CRel K z (upd H a o) (up S a c') a c') : HR K z (upd H a o) (up S a c') :=
  h.step (Ext.write e) fun b d q => by
    by_cases w : b = a
    · subst w; rw [up_same] at q; cases q; exact .inr r
    · rw [up_ne w] at q; exact .inl ⟨q, upd_ne w⟩
theorem Ext.rm {a : Addr} : Ext H S H (rm S a) := fun b u h q => ⟨h, by unfold TP.rm; split <;> first | rfl | exact q⟩
theorem HR.rm (h : HR K z H S) {a : Addr} : HR K z H (rm S a) := h.step Ext.rm fun b c e => .inl ⟨by
  unfold TP.rm at e
  split at e
  · cases e
  · exact e, rfl⟩
end
section
variable {K : PySem.W.Frag} {z : Addr → Prop} {H : Hp} {S : Sto}
theorem RTs.len : ∀ {ts : List T} {vs : List V}, RTs K z H S ts vs → vs.length = ts.length
  | [], _, h => by cases h; rfl
  | t :: ts, _, h => by
    cases h with
    | cons _ r => simp [r.len]
theorem RTs.get : ∀ {ts : List T} {vs : List V} {i : Nat} {v : V}, RTs K z H S ts vs → vs[i]? = some v → ∃ t, ts[i]? = some t ∧ RT K z H S t v
  | [], _, i, v, h, e => by cases h; simp at e
  | t :: ts, _, 0, v, h, e => by
    cases h with
    | cons h r => simp at e; subst e; exact ⟨t, rfl, h⟩
  | t :: ts, _, i + 1, v, h, e => by
    cases h with
    | cons h r => obtain ⟨t', e1, e2⟩ := RTs.get (i := i) r (by simpa using e); exact ⟨t', by simpa using e1, e2⟩
theorem RTs.get' : ∀ {ts : List T} {vs : List V} {i : Nat} {t : T}, RTs K z H S ts vs → ts[i]? = some t → ∃ v, vs[i]? = some v ∧ RT K z H S t v
  | [], _, i, v, h, e => by simp at e
  | t :: ts, _, 0, v, h, e => by
    cases h with
    | cons h r => simp at e; subst e; exact ⟨_, rfl, h⟩
  | t :: ts, _, i + 1, v, h, e => by
    cases h with
    | cons h r => obtain ⟨t', e1, e2⟩ := RTs.get' (i := i) r (by simpa using e); exact ⟨t', by simpa using e1, e2⟩
theorem RTs.app : ∀ {ts us : List T} {vs ws : List V}, RTs K z H S ts vs → RTs K z H S us ws → RTs K z H S (ts ++ us) (vs ++ ws)
  | [], _, _, _, h, g => by cases h; exact g
  | t :: ts, _, _, _, h, g => by
    cases h with
    | cons h r => exact .cons h (r.app g)
theorem RTs.take : ∀ {ts : List T} {vs : List V} (n : Nat), RTs K z H S ts vs → RTs K z H S (ts.take n) (vs.take n)
  | [], _, n, h => by cases h; simp; exact .nil
  | t :: ts, _, 0, h => by simp; exact .nil
  | t :: ts, _, n + 1, h => by
    cases h with
    | cons h r => exact .cons h (r.take n)
theorem RTs.drop : ∀ {ts : List T} {vs : List V} (n : Nat), RTs K z H S ts vs → RTs K z H S (ts.drop n) (vs.drop n)
  | [], _, n, h => by cases h; simp; exact .nil
  | t :: ts, _, 0, h => h
  | t :: ts, _, n + 1, h => by
    cases h with
    | cons h r => exact r.drop n
theorem RTs.set : ∀ {ts : List T} {vs : List V} (n : Nat) {t : T} {v : V}, RTs K z H S ts vs → RT K z H S t v → RTs K z H S (ts.set n t) (vs.set n v)
  | [], _, n, _, _, h, g => by cases h; simp; exact .nil
  | t :: ts, _, 0, _, _, h, g => by
    cases h with
    | cons h r => exact .cons g r
  | t :: ts, _, n + 1, _, _, h, g => by
    cases h with
    | cons h r => exact .cons h (r.set n g)
theorem RTs.erase : ∀ {ts : List T} {vs : List V} (n : Nat), RTs K z H S ts vs → RTs K z H S (ts.eraseIdx n) (vs.eraseIdx n)
  | [], _, n, h => by cases h; simp; exact .nil
  | t :: ts, _, 0, h => by
    cases h with
    | cons h r => exact r
  | t :: ts, _, n + 1, h => by
    cases h with
    | cons h r => exact .cons h (r.erase n)
theorem RTs.dropLast {ts : List T} {vs : List V} (h : RTs K z H S ts vs) : RTs K z H S ts.dropLast vs.dropLast := by
  rw [List.dropLast_eq_take, List.dropLast_eq_take, h.len]; exact h.take _
theorem RTs.rev : ∀ {ts : List T} {vs : List V}, RTs K z H S ts vs → RTs K z H S ts.reverse vs.reverse
  | [], _, h => by cases h; exact .nil
  | t :: ts, _, h => by
    cases h with
    | cons h r => rw [List.reverse_cons, List.reverse_cons]; exact r.rev.app (.cons h .nil)
theorem RTs.rep {ts : List T} {vs : List V} (h : RTs K z H S ts vs) : ∀ k : Nat, RTs K z H S (List.replicate k ts).flatten (List.replicate k vs).flatten
  | 0 => .nil
  | k + 1 => by rw [List.replicate_succ, List.replicate_succ, List.flatten_cons, List.flatten_cons]; exact h.app (RTs.rep h k)
theorem RT.sqT {ts : List T} {v : V} (h : RT K z H S (.tup ts) v) : ∃ a vs, v = .ref a ∧ SqT K H a vs ∧ RTs K z H S ts vs := by
  cases h with
  | tup h n r => exact ⟨_, _, rfl, .inl (.inl h), r⟩
  | tupK h r => exact ⟨_, _, rfl, .inr h, r⟩
theorem RT.sqL {ts : List T} {v : V} (h : RT K z H S (.lst ts) v) : ∃ a vs, v = .ref a ∧ H a = some (.lst vs) ∧ RTs K z H S ts vs := by
  cases h with
  | lst h n r => exact ⟨_, _, rfl, h, r⟩
theorem RT.sqS {ts : List T} {v : V} (h : RT K z H S (.scr ts) v) : ∃ a vs, v = .ref a ∧ SqL K H a vs ∧ RTs K z H S ts vs := by
  cases h with
  | scr h n r => exact ⟨_, _, rfl, .inl (.inr ⟨_, h⟩), r⟩
/-- the list at a, known to the store -/
theorem HR.lst (h : HR K z H S) {a : Addr} {ts : List T} (e : S a = some (.lst ts)) : ∃ vs, H a = some (.lst vs) ∧ RTs K z H S ts vs := h.at_ a _ e
theorem HR.dct (h : HR K z H S) {a : Addr} {kvs : List (Key × T)} (e : S a = some (.dct kvs)) : ∃ kvs', H a = some (.dK kvs') ∧ kvs.map (·.1) = kvs'.map (·.1) ∧ RTs K z H S (kvs.map (·.2)) (kvs'.map (·.2)) := h.at_ a _ e
end

/-! ### the lifts -/
/-- an exception: its class, its own fields -/
structure XV where
  cls : Value
  fs : Option (List (Str × T))
def XRel (K : PySem.W.Frag) (z : Addr → Prop) (H : Hp) (S : Sto) (x : XV) (c : Value) (d : Option Addr) : Prop := c = x.cls ∧
  match x.fs, d with
  | none, none => True
  | some fs, some a => (S a = none ∧ ¬ z a) ∧ ∃ gs, H a = some (.xd gs) ∧ fs.map (·.1) = gs.map (·.1) ∧ RTs K z H S (fs.map (·.2)) (gs.map (·.2))
  | _, _ => False
abbrev Env := List (Option T)
abbrev RP := T → Sto → Prop
abbrev XP := XV → Sto → Prop
def EnvR (K : PySem.W.Frag) (z : Addr → Prop) (H : Hp) (S : Sto) (env : Env) (σ : L2.St) : Prop := env.length = σ.length ∧ ∀ (i : Nat) (t : T), env[i]? = some (some t) → ∃ v, σ[i]? = some (some v) ∧ RT K z H S t v
section
variable {K : PySem.W.Frag} {z : Addr → Prop} {H H' : Hp} {S S' : Sto} {env : Env} {σ : L2.St}
theorem EnvR.mn (h : EnvR K z H S env σ) (x : Ext H S H' S') : EnvR K z H' S' env σ := ⟨h.1, fun i t e => let ⟨v, q, r⟩ := h.2 i t e; ⟨v, q, r.mn x⟩⟩
theorem EnvR.set (h : EnvR K z H S env σ) (i : Nat) {t : T} {v : V} (r : RT K z H S t v) : EnvR K z H S (env.set i (some t)) (σ.set i (some v)) := by
  refine ⟨by simp [h.1], fun j u e => ?_⟩
  by_cases w : i = j
  · subst w
    by_cases l : i < env.length
    · rw [List.getElem?_set_self l] at e; cases e
      exact ⟨v, by rw [List.getElem?_set_self (by rw [← h.1]; exact l)], r⟩
    · rw [List.getElem?_eq_none (by simpa using l)] at e; cases e
  · rw [List.getElem?_set_ne w] at e
    obtain ⟨v2, q, r⟩ := h.2 j u e
    exact ⟨v2, by rw [List.getElem?_set_ne w]; exact q, r⟩
/-- forgetting a slot -/
theorem EnvR.unset (h : EnvR K z H S env σ) (i : Nat) : EnvR K z H S (env.set i none) (σ.set i none) := by
  refine ⟨by simp [h.1], fun j u e => ?_⟩
  by_cases w : i = j
  · subst w
    by_cases l : i < env.length
    · rw [List.getElem?_set_self l] at e; cases e
    · rw [List.getElem?_eq_none (by simpa using l)] at e; cases e
  · rw [List.getElem?_set_ne w] at e
    obtain ⟨v2, q, r⟩ := h.2 j u e
    exact ⟨v2, by rw [List.getElem?_set_ne w]; exact q, r⟩
theorem EnvR.unsetL (h : EnvR K z H S env σ) (i : Nat) : EnvR K z H S (env.set i none) σ := by
  refine ⟨by simp [h.1], fun j u e => ?_⟩
  by_cases w : i = j
  · subst w
    by_cases l : i < env.length
    · rw [List.getElem?_set_self l] at e; cases e
    · rw [List.getElem?_eq_none (by simpa using l)] at e; cases e
  · rw [List.getElem?_set_ne w] at e
    exact h.2 j u e
def wipeE (env : Env) : List Nat → Env
  | [] => env
  | v :: vs => (wipeE env vs).set v none
theorem EnvR.wipe (h : EnvR K z H S env σ) : ∀ vs : List Nat, EnvR K z H S (wipeE env vs) (L2.wipe σ vs)
  | [] => h
  | v :: vs => (h.wipe vs).unset v
end
/-- α as a tree, β as the layer's: values, truths, lists of values -/
def lG {α β : Type} (K : PySem.W.Frag) (rel : (Addr → Prop) → Hp → Sto → α → β → Prop) (W : WX) (w : Env → Sto → (α → Sto → Prop) → XP → Prop) : L2.St → Hp → (β → Hp → Prop) → Prop := fun σ H Q =>
  ∃ z env S R E, EnvR K z H S env σ ∧ HR K z H S ∧ w env S R E ∧ (∀ r S' v H', Ext H S H' S' → HR K z H' S' → rel z H' S' r v → R r S' → Q v H') ∧
    ∀ x S' c d H', Ext H S H' S' → HR K z H' S' → XRel K z H' S' x c d → E x S' → W c d σ H'
abbrev WE1 := Env → Sto → RP → XP → Prop
abbrev WT1 := Env → Sto → (Bool → Sto → Prop) → XP → Prop
abbrev WA1 := Env → Sto → (List T → Sto → Prop) → XP → Prop
abbrev lE (K : PySem.W.Frag) (W : WX) (w : WE1) : TE := lG K (fun z H S t v => RT K z H S t v) W w
abbrev lT (K : PySem.W.Frag) (W : WX) (w : WT1) : TT := lG K (fun _ _ _ a b => a = b) W w
abbrev lA (K : PySem.W.Frag) (W : WX) (w : WA1) : TA := lG K (fun z H S t v => RTs K z H S t v) W w
def JE (X : Cx) (e : Expr) (w : WE1) : Prop := ∀ W, Takes X W → PE X e (lE X.K W w)
def JT (X : Cx) (e : Expr) (w : WT1) : Prop := ∀ W, Takes X W → PT X e (lT X.K W w)
def JW (X : Cx) (e : Expr) (w : WT1) : Prop := ∀ W, Takes X W → PW X e (lT X.K W w)
def JA (X : Cx) (es : List Expr) (w : WA1) : Prop := ∀ W, Takes X W → PA X es (lA X.K W w)
theorem pe_imp {X : Cx} {e : Expr} {t t' : TE} (h : PE X e t) (i : ∀ σ H Q, t' σ H Q → t σ H Q) : PE X e t' := ⟨fun pins s σ H Q I q => h.run pins s σ H Q I (i σ H Q q)⟩
theorem pt_imp {X : Cx} {e : Expr} {t t' : TT} (h : PT X e t) (i : ∀ σ H Q, t' σ H Q → t σ H Q) : PT X e t' := ⟨fun pins s σ H Q I q => h.run pins s σ H Q I (i σ H Q q)⟩
theorem pw_imp {X : Cx} {e : Expr} {t t' : TT} (h : PW X e t) (i : ∀ σ H Q, t' σ H Q → t σ H Q) : PW X e t' := ⟨fun wh pins s σ H Q I q => h.run wh pins s σ H Q I (i σ H Q q)⟩
theorem pa_imp {X : Cx} {e : List Expr} {t t' : TA} (h : PA X e t) (i : ∀ σ H Q, t' σ H Q → t σ H Q) : PA X e t' := ⟨fun p pins s σ H Q I q => h.run p pins s σ H Q I (i σ H Q q)⟩
/-- operations on values, as trees: two places, one place, a call, a method -/
abbrev O1 := T → Sto → RP → Prop
abbrev O2 := T → T → Sto → RP → Prop
abbrev OC := List T → Sto → RP → Prop
abbrev OM := T → List T → Sto → RP → Prop
def lQ (K : PySem.W.Frag) (z : Addr → Prop) (H : Hp) (S : Sto) (R : RP) (Q : VK) : Prop := ∀ r S' v H', Ext H S H' S' → HR K z H' S' → RT K z H' S' r v → R r S' → Q v H'
def lO1 (K : PySem.W.Frag) (o : O1) : V → Hp → VK → Prop := fun vx H Q => ∃ z x S R, HR K z H S ∧ RT K z H S x vx ∧ o x S R ∧ lQ K z H S R Q
def lO2 (K : PySem.W.Frag) (o : O2) : R2 := fun vx vy H Q => ∃ z x y S R, HR K z H S ∧ RT K z H S x vx ∧ RT K z H S y vy ∧ o x y S R ∧ lQ K z H S R Q
def lOC (K : PySem.W.Frag) (o : OC) : List V → Hp → VK → Prop := fun vs H Q => ∃ z xs S R, HR K z H S ∧ RTs K z H S xs vs ∧ o xs S R ∧ lQ K z H S R Q
def lOM (K : PySem.W.Frag) (o : OM) : V → List V → Hp → VK → Prop := fun v vs H Q => ∃ z x xs S R, HR K z H S ∧ RT K z H S x v ∧ RTs K z H S xs vs ∧ o x xs S R ∧ lQ K z H S R Q
theorem lQ.here {K : PySem.W.Frag} {z : Addr → Prop} {H : Hp} {S : Sto} {R : RP} {Q : VK} (k : lQ K z H S R Q) (hr : HR K z H S) {r : T} {v : V} (t : RT K z H S r v) (q : R r S) : Q v H := k r S v H (Ext.refl _ _) hr t q
/-- a new tuple -/
theorem lQ.tup {K : PySem.W.Frag} {z : Addr → Prop} {H : Hp} {S : Sto} {R : RP} {Q : VK} (k : lQ K z H S R Q) (hr : HR K z H S) {ts : List T} {vs : List V} (t : RTs K z H S ts vs) (q : R (.tup ts) S) {p : Addr} (n : H p = none) : Q (.ref p) (upd H p (.tup vs)) :=
  k _ _ _ _ (Ext.new n) (hr.new n) (.tup upd_same (hr.fr n) (t.mn (Ext.new n))) q
/-- a new list that nobody will change -/
theorem lQ.lstF {K : PySem.W.Frag} {z : Addr → Prop} {H : Hp} {S : Sto} {R : RP} {Q : VK} (k : lQ K z H S R Q) (hr : HR K z H S) {ts : List T} {vs : List V} (t : RTs K z H S ts vs) (q : R (.lst ts) S) {p : Addr} (n : H p = none) : Q (.ref p) (upd H p (.lst vs)) :=
  k _ _ _ _ (Ext.new n) (hr.new n) (.lst upd_same (hr.fr n) (t.mn (Ext.new n))) q
/-- a new list, known -/
theorem lQ.lst {K : PySem.W.Frag} {z : Addr → Prop} {H : Hp} {S : Sto} {R : RP} {Q : VK} (k : lQ K z H S R Q) (hr : HR K z H S) {ts : List T} {vs : List V} (t : RTs K z H S ts vs) (q : ∀ a, S a = none → R (.ref a) (up S a (.lst ts))) {p : Addr} (n : H p = none) : Q (.ref p) (upd H p (.lst vs)) :=
  k _ _ _ _ (Ext.newS n) (hr.newS (c := .lst ts) n ⟨vs, upd_same, t.mn (Ext.newS n)⟩) (.ref p) (q p (hr.non n))
end TP

set_option maxHeartbeats 1000000
namespace TP
open PySem PySem.Spec PyProof.Rows L2
/-! ### a dict is no text -/
theorem str_eq_dict (b : Str) (u : Tok) (l : Addr) (c : Value) (es : Array DictEntry) (n : Nat) (dd : Option Addr) (sl : Array (Option Value)) :
    Meets (Builtin.«str.__eq__» ⟨[.str b u, .ref l], []⟩) (fun _ R s => s.heap.get? l = some { cls := c, dict := dd, data := .dict es n, slots := sl } ∧ R (.ok (.ret .notImplemented)) s) :=
  .of_wp fun prog w A R s h => by obtain ⟨hp, g, d, tk, os⟩ := s; obtain ⟨hl, h⟩ := h; wp_walk using wpAny_loadPart' hl, wpAny_load hl; exact ⟨_, rfl, h⟩
section
variable {prog : Program} {w : World} {K : Type} [DecidableEq K] {knd : KeyKind prog w K} {A : Around} {E : Value → Shared → Prop} {s : Shared}
theorem eq_dict_str {a : Addr} {kvs : List (K × Value)} {b : Str} {u : Tok} {Q : Value → Shared → Prop} (da : s.heap.DictOf knd a kvs) (hu : A.units < cLine) (h : Q (.bool false) s) :
    wpAny (model prog w) A (compareOp .Eq (.ref a) (.str b u)) Q E s := by
  show wpAny _ A (richCompare .Eq _ _) Q E s
  refine SeqAt.rc_eq_decline_or (k := false) da.typeIs (typeIs_str s b u) (by decide) F.sub_str_dict F.slot_dict_eq F.slot_str_eq_refl (fun Q' hq => ?_) (fun Q' hq => ?_) (fun _ hq => wpAny_of_eq (rfl : isSame (.ref a) (.str b u) = pure false) hq) (.inr hu) h
  · refine wpAny_call_entry F.slot_dict_eq da.typeIs F.entry_dict_eq ?_ (F.args_dict_eq_2 _ _)
    show wpAny _ _ (Builtin.Dict.dictSlotArgs "__eq__" ⟨[.ref a, .str b u], []⟩ >>= _) _ _ s
    refine wpAny_bind ?_
    unfold Builtin.Dict.dictSlotArgs
    refine wpAny_bind (wpAny_notOrdered_dict da.typeIs ?_)
    show wpAny _ _ (pure (Value.ref a, Value.str b u)) _ _ s
    refine wpAny_pure ?_
    refine wpAny_bind (wpAny_isInstance (T := "str") (typeIs_str s b u) F.sub_str_dict ?_)
    simp only [Bool.not_false, if_true]
    refine wpAny_bind (wpAny_rule ?_)
    exact wpAny_pure ⟨_, rfl, hq⟩
  · obtain ⟨⟨cls, dd, data, sl⟩, es, ep, ho, hc, hd, _⟩ := id da
    simp only at hd
    subst hd
    exact call_meets F.slot_str_eq_refl (typeIs_str s b u) F.entry_str_eq (F.args_str_eq_2 _ _) (str_eq_dict b u a cls es ep dd sl) ⟨ho, hq⟩
end
end TP

set_option maxHeartbeats 1000000
namespace TP
open PySem PySem.Spec PyProof.Rows L2

theorem ncons {α : Type} {a b : α} {l : List α} (h : a ≠ b) (n : a ∉ l) : a ∉ b :: l := fun m => (List.mem_cons.mp m).elim h n
/-! ### trees as data -/
def keyD : Key → PyData
  | .inl i => .int i
  | .inr x => .str x
mutual
def toD : T → Option PyData
  | .non => some .none
  | .bl b => some (.bool b)
  | .int i => some (.int i)
  | .str x => some (.str x)
  | .tup ts => (toDs ts).map .tuple
  | .lst ts => (toDs ts).map .list
  | .scr ts => (toDs ts).map .list
  | .dct ks ts => (toDs ts).bind fun ds => if ds.length = ks.length then some (.dict ((ks.map keyD).zip ds)) else none
  | _ => none
def toDs : List T → Option (List PyData)
  | [] => some []
  | t :: ts => match toD t, toDs ts with
    | some d, some ds => some (d :: ds)
    | _, _ => none
end
/-- the top may be a list that may change -/
def topD (S : Sto) : T → Option PyData
  | .ref a => match S a with
    | some (.lst ts) => (toDs ts).map .list
    | _ => none
  | t => toD t
theorem zip_fst {α β : Type} : ∀ {l : List α} {m : List β}, m.length = l.length → (l.zip m).map (·.1) = l
  | [], _, _ => rfl
  | a :: l, [], h => by simp at h
  | a :: l, b :: m, h => by simp [zip_fst (l := l) (m := m) (by simpa using h)]
theorem zip_snd {α β : Type} : ∀ {l : List α} {m : List β}, m.length = l.length → (l.zip m).map (·.2) = m
  | [], [], _ => rfl
  | [], b :: m, h => by simp at h
  | a :: l, [], h => by simp at h
  | a :: l, b :: m, h => by simp [zip_snd (l := l) (m := m) (by simpa using h)]
section
variable {X : Cx} {pins : List (Addr × Obj)} {σ : L2.St} {H : Hp} {s : Shared} {S : Sto} {z : Addr → Prop}
/-- nothing tracked is the machine's own dict of modules -/
def NoSys (H : Hp) : Prop := H sysModules = none
theorem NoSys.ne {H : Hp} (n : NoSys H) {a : Addr} {o : HO} (e : H a = some o) : sysModules ≠ a := fun z => by subst z; rw [n] at e; cases e
theorem nosys_of (I : Inv X pins σ H s) (b : ∃ o, X.base.get? sysModules = some o) : NoSys H := let ⟨o, e⟩ := b; (I.bs _ o e).2
theorem keys_read {h : Heap} : ∀ {es : List DictEntry} {kvs : List (Key × Value)}, Pairs (mixKind X.prog X.w) es kvs → ReadsAll h (es.map (·.key)) (kvs.map (fun kv => keyD kv.1)) []
  | _, _, .nil => .nil
  | _, _, .cons (e := e) (kv := kv) hk _ r => by
    refine ReadsAll.cons (as := []) (bs := []) ?_ (keys_read r)
    show Reads h e.key (keyD kv.1) []
    rcases keyIs_shape (show keyIs kv.1 e.key = true from hk) with ⟨i, t, h1, h2⟩ | ⟨x, t, h1, h2⟩
    · rw [h1, h2]; exact .int i t
    · rw [h1, h2]; exact .str x t
theorem vals_of_pairs {es : List DictEntry} {kvs : List (Key × Value)} (p : Pairs (mixKind X.prog X.w) es kvs) : es.map (·.val) = kvs.map (·.2) := by
  induction p with
  | nil => rfl
  | cons _ e _ ih => simp [e, ih]
theorem kv_vals : ∀ {ks : List (Key × V)} {vs : List (Key × Value)}, KV ks vs → Vals (ks.map (·.2)) (vs.map (·.2)) ∧ ks.map (·.1) = vs.map (·.1)
  | _, _, .nil => ⟨.nil, rfl⟩
  | _, _, .cons h r => ⟨.cons h.2 (kv_vals r).1, by simp [h.1, (kv_vals r).2]⟩
mutual
theorem reads_of (I : Inv X pins σ H s) (ns : NoSys H) : ∀ (t : T) (v : V) (u : Value) (d : PyData), RT X.K z H S t v → toD t = some d → RelV v u → ∃ as, Reads s.heap u d as ∧ sysModules ∉ as
  | .non, _, _, _, h, e, r => by cases h; cases e; cases r; exact ⟨_, .none, by simp⟩
  | .bl _, _, _, _, h, e, r => by cases h; cases e; cases r; exact ⟨_, .bool _, by simp⟩
  | .int _, _, _, _, h, e, r => by cases h; cases e; obtain ⟨t, rfl⟩ := r; exact ⟨_, .int _ _, by simp⟩
  | .str _, _, _, _, h, e, r => by cases h; cases e; obtain ⟨t, rfl⟩ := r; exact ⟨_, .str _ _, by simp⟩
  | .ty _, _, _, _, h, e, r => by cases e
  | .ref _, _, _, _, h, e, r => by cases e
  | .tup ts, v, u, d, h, e, r => by
    obtain ⟨ds, e1, rfl⟩ : ∃ ds, toDs ts = some ds ∧ d = .tuple ds := by
      simp only [toD, Option.map_eq_some_iff] at e; obtain ⟨ds, a, b⟩ := e; exact ⟨ds, a, b.symm⟩
    obtain ⟨a, vs, rfl, q, rr⟩ := h.sqT
    cases r
    obtain ⟨its, rv, ⟨o, ho, hc, n, hd⟩, _⟩ := I.tuple q
    obtain ⟨as, h1, h2⟩ := readsAll_of I ns ts vs its ds rr e1 rv
    exact ⟨_, .tuple ho hc hd h1, h2⟩
  | .lst ts, v, u, d, h, e, r => by
    obtain ⟨ds, e1, rfl⟩ : ∃ ds, toDs ts = some ds ∧ d = .list ds := by
      simp only [toD, Option.map_eq_some_iff] at e; obtain ⟨ds, a, b⟩ := e; exact ⟨ds, a, b.symm⟩
    obtain ⟨a, vs, rfl, q, rr⟩ := h.sqL
    cases r
    obtain ⟨_, its, n, rv, ho⟩ := I.hok a _ q
    obtain ⟨as, h1, h2⟩ := readsAll_of I ns ts vs its ds rr e1 rv
    exact ⟨_, .list ho rfl rfl h1, ncons (ns.ne q) h2⟩
  | .scr ts, v, u, d, h, e, r => by
    obtain ⟨ds, e1, rfl⟩ : ∃ ds, toDs ts = some ds ∧ d = .list ds := by
      simp only [toD, Option.map_eq_some_iff] at e; obtain ⟨ds, a, b⟩ := e; exact ⟨ds, a, b.symm⟩
    cases h with
    | scr q n rr =>
      cases r
      obtain ⟨_, _, its, n, rv, ho⟩ := I.hok _ _ q
      obtain ⟨as, h1, h2⟩ := readsAll_of I ns ts _ its ds rr e1 rv
      exact ⟨_, .list ho rfl rfl h1, ncons (ns.ne q) h2⟩
  | .dct ks ts, v, u, d, h, e, r => by
    simp only [toD, Option.bind_eq_some_iff] at e
    obtain ⟨ds, e1, e2⟩ := e
    split at e2
    · rename_i hl
      cases e2
      cases h with
      | @dct a kvs _ _ q n ek rr =>
        cases r
        obtain ⟨_, hne, vs, kv, o, es, ep, ho, hx, hd, _, hp, _⟩ := I.hok _ _ q
        obtain ⟨v1, v2⟩ := kv_vals kv
        have hv := vals_of_pairs hp
        obtain ⟨as, h1, h2⟩ := readsAll_of I ns ts _ (vs.map (·.2)) ds rr e1 v1
        refine ⟨_, .dict (as := []) (bs := as) ho hx.1 hd ?_ ?_, ?_⟩
        · rw [zip_fst (by simpa using hl)]
          have hk := keys_read (h := s.heap) hp
          have : ks.map keyD = vs.map fun kv => keyD kv.1 := by rw [ek, v2]; simp
          rw [this]; exact hk
        · rw [zip_snd (by simpa using hl), hv]; exact h1
        · simp only [List.append_nil, List.cons_append, List.nil_append]
          exact ncons (ns.ne q) h2
    · cases e2
theorem readsAll_of (I : Inv X pins σ H s) (ns : NoSys H) : ∀ (ts : List T) (vs : List V) (us : List Value) (ds : List PyData), RTs X.K z H S ts vs → toDs ts = some ds → Vals vs us → ∃ as, ReadsAll s.heap us ds as ∧ sysModules ∉ as
  | [], _, _, _, h, e, r => by cases h; cases e; cases r; exact ⟨_, .nil, by simp⟩
  | t :: ts, _, _, ds, h, e, r => by
    cases h with
    | cons h hr =>
      cases r with
      | cons r rr =>
        simp only [toDs] at e
        split at e
        · rename_i d ds' e1 e2
          cases e
          obtain ⟨as, a1, a2⟩ := reads_of I ns t _ _ d h e1 r
          obtain ⟨bs, b1, b2⟩ := readsAll_of I ns ts _ _ ds' hr e2 rr
          exact ⟨_, .cons a1 b1, by simp [a2, b2]⟩
        · cases e
end
theorem readsTop (I : Inv X pins σ H s) (ns : NoSys H) (hr : HR X.K z H S) {t : T} {v : V} {u : Value} {d : PyData} (h : RT X.K z H S t v) (e : topD S t = some d) (r : RelV v u) : ∃ as, Reads s.heap u d as ∧ sysModules ∉ as := by
  cases t with
  | ref a =>
    cases h
    cases r
    simp only [topD] at e
    split at e
    · rename_i ts es
      obtain ⟨vs, q, rr⟩ := hr.lst es
      obtain ⟨ds, e1, rfl⟩ : ∃ ds, toDs ts = some ds ∧ d = .list ds := by
        simp only [Option.map_eq_some_iff] at e; obtain ⟨ds, a, b⟩ := e; exact ⟨ds, a, b.symm⟩
      obtain ⟨_, its, n, rv, ho⟩ := I.hok a _ q
      obtain ⟨as, h1, h2⟩ := readsAll_of I ns ts vs its ds rr e1 rv
      exact ⟨_, .list ho rfl rfl h1, ncons (ns.ne q) h2⟩
    · cases e
  | non => exact reads_of I ns _ v u d h e r
  | bl _ => exact reads_of I ns _ v u d h e r
  | int _ => exact reads_of I ns _ v u d h e r
  | str _ => exact reads_of I ns _ v u d h e r
  | tup _ => exact reads_of I ns _ v u d h e r
  | lst _ => exact reads_of I ns _ v u d h e r
  | scr _ => exact reads_of I ns _ v u d h e r
  | dct _ _ => exact reads_of I ns _ v u d h e r
  | ty _ => exact reads_of I ns _ v u d h e r
end

/-! ### sequences -/
def seqOf (S : Sto) : T → Option (List T)
  | .tup ts => some ts
  | .lst ts => some ts
  | .scr ts => some ts
  | .ref a => match S a with
    | some (.lst ts) => some ts
    | _ => none
  | _ => none
def lstOf (S : Sto) : T → Option (List T)
  | .lst ts => some ts
  | .ref a => match S a with
    | some (.lst ts) => some ts
    | _ => none
  | _ => none
section
variable {K : PySem.W.Frag} {z : Addr → Prop} {H : Hp} {S : Sto}
theorem lst_rel (hr : HR K z H S) {t : T} {v : V} {ts : List T} (h : RT K z H S t v) (e : lstOf S t = some ts) : ∃ a vs, v = .ref a ∧ H a = some (.lst vs) ∧ RTs K z H S ts vs := by
  cases t with
  | lst us => cases e; exact h.sqL
  | ref a =>
    cases h
    simp only [lstOf] at e
    split at e
    · rename_i us es
      cases e
      obtain ⟨vs, q, r⟩ := hr.lst es
      exact ⟨_, vs, rfl, q, r⟩
    · cases e
  | _ => cases e
theorem seq_rel (hr : HR K z H S) {t : T} {v : V} {ts : List T} (h : RT K z H S t v) (e : seqOf S t = some ts) : ∃ a vs, v = .ref a ∧ (SqL K H a vs ∨ SqT K H a vs) ∧ RTs K z H S ts vs := by
  cases t with
  | tup us => cases e; obtain ⟨a, vs, e, q, r⟩ := h.sqT; exact ⟨a, vs, e, .inr q, r⟩
  | lst us => cases e; obtain ⟨a, vs, e, q, r⟩ := h.sqL; exact ⟨a, vs, e, .inl (SqL.of q), r⟩
  | scr us => cases e; obtain ⟨a, vs, e, q, r⟩ := h.sqS; exact ⟨a, vs, e, .inl q, r⟩
  | ref a =>
    cases h
    simp only [seqOf] at e
    split at e
    · rename_i us es
      cases e
      obtain ⟨vs, q, r⟩ := hr.lst es
      exact ⟨_, vs, rfl, .inl (SqL.of q), r⟩
    · cases e
  | _ => cases e
end

/-- a tuple times one is that tuple -/
theorem tuple_once (l : Addr) (items : Array Value) (n : Nat) (dd : Option Addr) (sl : Array (Option Value)) (u : Tok) :
    Meets (Builtin.«tuple.__mul__» ⟨[.ref l, .int 1 u], []⟩) (fun _ R s => s.heap.get? l = some { cls := .type "tuple", dict := dd, data := .seq items n, slots := sl } ∧ R (.ok (.ret (Value.ref l))) s) :=
  .of_wp fun prog w A R s h => by
    obtain ⟨hp, g, d, tk, os⟩ := s
    obtain ⟨hl, h⟩ := h
    have f1 := AutoSeq1.idx_int
    have c1 : (items.isEmpty || (1 : Int) == 1) = true := by simp
    wp_walk using wpAny_loadPart' hl
    repeat (first
      | (refine wpAny_ite_false (by decide) ?_; wp_walk using wpAny_loadPart' hl)
      | (refine wpAny_ite_true c1 ?_; wp_walk using wpAny_loadPart' hl))
    exact ⟨_, rfl, h⟩
theorem op_once {X : Cx} : OpR X (binaryOp .Mult) (fun x y H Q => ∃ l xs, x = .ref l ∧ y = .int 1 ∧ SqT X.K H l xs ∧ Q (.ref l) H) := by
  intro pins s σ H x y v u Q I rx ry h
  obtain ⟨l, xs, rfl, rfl, hT, q⟩ := h
  cases rx
  obtain ⟨t, rfl⟩ := ry
  obtain ⟨its, r, ⟨⟨cls, dd, data, sl⟩, at_, ec, n, ed⟩, hs⟩ := I.tuple hT
  simp only at ec ed
  subst ec ed
  exact wpAny_binaryOp_repeat_ref (T := "tuple") (U := "int") (by decide) ⟨_, at_, rfl⟩ (fun s' => typeIs_int s' 1 t) noFill_tuple_mul F.fills_int_mul F.slot_int_rmul repeat_tuple F.slot_int_index.lookup
    (call_meets F.slot_int_rmul (typeIs_int s 1 t) F.entry_int_rmul (F.args_int_rmul_2 _ _) (int_rmul_tuple 1 t l its.toArray n dd sl)
      ⟨at_, rfl, ⟨_, at_, rfl⟩, call_meets F.slot_tuple_mul ⟨_, at_, rfl⟩ F.entry_tuple_mul (F.args_tuple_mul_2 _ _) (tuple_once l its.toArray n dd sl t) ⟨at_, ⟨.ref l, H, I, rfl, q⟩⟩⟩)
/-! ### operators -/
def oAdd : O2 := fun x y S R => match x, y with
  | .int i, .int j => R (.int (i + j)) S
  | .str a, .str b => a.length + b.length ≤ sizeLine ∧ R (.str (a ++ b)) S
  | .tup a, .tup b => a.length + b.length ≤ sizeLine ∧ R (.tup (a ++ b)) S
  | x, y => match lstOf S x, lstOf S y with
    | some a, some b => a.length + b.length ≤ sizeLine ∧ ∀ p, S p = none → R (.ref p) (up S p (.lst (a ++ b)))
    | _, _ => False
def oSub : O2 := fun x y S R => match x, y with
  | .int i, .int j => R (.int (i - j)) S
  | _, _ => False
def MulOk (i j : Int) : Prop := CMul i j ∨ CMulW i j
def oMul : O2 := fun x y S R => match x, y with
  | .int i, .int j => MulOk i j ∧ R (.int (i * j)) S
  | .tup a, .int k => (k = 1 ∧ R (.tup a) S) ∨ (a ≠ [] ∧ 2 ≤ k ∧ k ≤ 1000 ∧ a.length ≤ 1000 ∧ R (.tup (List.replicate k.toNat a).flatten) S)
  | x, .int k => match lstOf S x with
    | some a => (-(2 ^ 63) ≤ k ∧ k < 2 ^ 63 ∧ a.length * k.toNat ≤ sizeLine) ∧ ∀ p, S p = none → R (.ref p) (up S p (.lst (List.replicate k.toNat a).flatten))
    | _ => False
  | _, _ => False
def DivOk (j : Int) : Prop := j ≠ 0 ∧ j.natAbs.log2 < 9000
def oDiv : O2 := fun x y S R => match x, y with
  | .int i, .int j => DivOk j ∧ R (.int (i.fdiv j)) S
  | _, _ => False
def oMod : O2 := fun x y S R => match x, y with
  | .int i, .int j => j ≠ 0 ∧ R (.int (i.fmod j)) S
  | _, _ => False
def oPow : O2 := fun x y S R => match x, y with
  | .int i, .int j => CPow i j ∧ R (.int (i ^ j.toNat)) S
  | _, _ => False
inductive Bo where
  | add | sub | mul | div | mod | pow
  deriving DecidableEq
def Bo.op : Bo → Operator
  | .add => .Add | .sub => .Sub | .mul => .Mult | .div => .FloorDiv | .mod => .Mod | .pow => .Pow
def Bo.sem : Bo → O2
  | .add => oAdd | .sub => oSub | .mul => oMul | .div => oDiv | .mod => oMod | .pow => oPow
theorem op_fdivA {X : Cx} : OpR X (binaryOp .FloorDiv) (rI (fun _ j => DivOk j) fun i j => .int (i.fdiv j)) := opI fun _ _ _ _ _ _ _ hc q => floordiv_int hc.1 q (.inl (PyProof.noPylong_of_log2 hc.2))
theorem nonil {K : PySem.W.Frag} {z : Addr → Prop} {H : Hp} {S : Sto} {ts : List T} {vs : List V} (h : RTs K z H S ts vs) (n : ts ≠ []) : vs ≠ [] := fun e => n (by
  have := h.len; rw [e] at this; exact List.length_eq_zero_iff.mp this.symm)
theorem ok_add {X : Cx} : OpR X (binaryOp .Add) (lO2 X.K oAdd) := by
  intro pins s σ H vx vy v u Q I rx ry h
  obtain ⟨z, x, y, S, R, hr, tx, ty, ho, k⟩ := h
  unfold oAdd at ho
  split at ho
  · cases tx; cases ty
    exact op_add pins s σ H _ _ v u Q I rx ry ⟨_, _, rfl, rfl, k.here hr (.int _) ho⟩
  · cases tx; cases ty
    exact op_add_str pins s σ H _ _ v u Q I rx ry ⟨_, _, rfl, rfl, ho.1, k.here hr (.str _) ho.2⟩
  · obtain ⟨a, vs, rfl, qa, ra⟩ := tx.sqT
    obtain ⟨b, ws, rfl, qb, rb⟩ := ty.sqT
    rename_i ts us
    refine op_catA pins s σ H _ _ v u Q I rx ry ⟨a, b, vs, ws, rfl, rfl, qa, qb, by rw [ra.len, rb.len]; exact ho.1, fun e => ?_, fun _ e => ?_, fun _ _ p n => k.tup hr (ra.app rb) ho.2 n⟩
    · have e2 : ts = [] := by have := ra.len; rw [e] at this; exact List.length_eq_zero_iff.mp this.symm
      subst e2
      exact k.here hr ty ho.2
    · have e2 : us = [] := by have := rb.len; rw [e] at this; exact List.length_eq_zero_iff.mp this.symm
      subst e2
      exact k.here hr tx (by simpa using ho.2)
  · split at ho
    · rename_i ea eb
      obtain ⟨a, vs, rfl, qa, ra⟩ := lst_rel hr tx ea
      obtain ⟨b, ws, rfl, qb, rb⟩ := lst_rel hr ty eb
      exact op_cat pins s σ H _ _ v u Q I rx ry ⟨a, b, vs, ws, rfl, rfl, qa, qb, by rw [ra.len, rb.len]; exact ho.1, fun p n => k.lst hr (ra.app rb) ho.2 n⟩
    · exact ho.elim
theorem ok_sub {X : Cx} : OpR X (binaryOp .Sub) (lO2 X.K oSub) := by
  intro pins s σ H vx vy v u Q I rx ry h
  obtain ⟨z, x, y, S, R, hr, tx, ty, ho, k⟩ := h
  unfold oSub at ho
  split at ho
  · cases tx; cases ty
    exact op_sub pins s σ H _ _ v u Q I rx ry ⟨_, _, rfl, rfl, k.here hr (.int _) ho⟩
  · exact ho.elim
theorem ok_mul {X : Cx} : OpR X (binaryOp .Mult) (lO2 X.K oMul) := by
  intro pins s σ H vx vy v u Q I rx ry h
  obtain ⟨z, x, y, S, R, hr, tx, ty, ho, k⟩ := h
  unfold oMul at ho
  split at ho
  · cases tx; cases ty
    rcases ho.1 with c | c
    · exact op_mul pins s σ H _ _ v u Q I rx ry ⟨_, _, rfl, rfl, c, k.here hr (.int _) ho.2⟩
    · exact op_mulW pins s σ H _ _ v u Q I rx ry ⟨_, _, rfl, rfl, c, k.here hr (.int _) ho.2⟩
  · obtain ⟨a, vs, rfl, qa, ra⟩ := tx.sqT
    cases ty
    rcases ho with ⟨rfl, ho⟩ | ⟨h1, h2, h3, h4, h5⟩
    · exact op_once pins s σ H _ _ v u Q I rx ry ⟨_, _, rfl, rfl, qa, k.here hr tx ho⟩
    exact op_repT pins s σ H _ _ v u Q I rx ry ⟨a, _, vs, rfl, rfl, qa, nonil ra h1, h2, h3, by rw [ra.len]; exact h4, fun p n => k.tup hr (ra.rep _) h5 n⟩
  · split at ho
    · rename_i ea
      obtain ⟨a, vs, rfl, qa, ra⟩ := lst_rel hr tx ea
      cases ty
      exact op_rep pins s σ H _ _ v u Q I rx ry ⟨a, _, vs, rfl, rfl, qa, ho.1.1, ho.1.2.1, by rw [ra.len]; exact ho.1.2.2, fun p n => k.lst hr (ra.rep _) ho.2 n⟩
    · exact ho.elim
  · exact ho.elim
theorem ok_div {X : Cx} : OpR X (binaryOp .FloorDiv) (lO2 X.K oDiv) := by
  intro pins s σ H vx vy v u Q I rx ry h
  obtain ⟨z, x, y, S, R, hr, tx, ty, ho, k⟩ := h
  unfold oDiv at ho
  split at ho
  · cases tx; cases ty
    exact op_fdivA pins s σ H _ _ v u Q I rx ry ⟨_, _, rfl, rfl, ho.1, k.here hr (.int _) ho.2⟩
  · exact ho.elim
theorem ok_mod {X : Cx} : OpR X (binaryOp .Mod) (lO2 X.K oMod) := by
  intro pins s σ H vx vy v u Q I rx ry h
  obtain ⟨z, x, y, S, R, hr, tx, ty, ho, k⟩ := h
  unfold oMod at ho
  split at ho
  · cases tx; cases ty
    exact op_modN pins s σ H _ _ v u Q I rx ry ⟨_, _, rfl, rfl, ho.1, k.here hr (.int _) ho.2⟩
  · exact ho.elim
theorem ok_pow {X : Cx} : OpR X (binaryOp .Pow) (lO2 X.K oPow) := by
  intro pins s σ H vx vy v u Q I rx ry h
  obtain ⟨z, x, y, S, R, hr, tx, ty, ho, k⟩ := h
  unfold oPow at ho
  split at ho
  · cases tx; cases ty
    exact op_pow pins s σ H _ _ v u Q I rx ry ⟨_, _, rfl, rfl, ho.1, k.here hr (.int _) ho.2⟩
  · exact ho.elim
theorem ok_bin {X : Cx} (b : Bo) : OpR X (binaryOp b.op) (lO2 X.K b.sem) := by
  cases b
  · exact ok_add
  · exact ok_sub
  · exact ok_mul
  · exact ok_div
  · exact ok_mod
  · exact ok_pow
def oNeg : O1 := fun x S R => match x with
  | .int i => R (.int (-i)) S
  | _ => False
theorem ok_neg {X : Cx} : UnR X (unaryOp .USub) (lO1 X.K oNeg) := by
  intro pins s σ H vx v Q I rx h
  obtain ⟨z, x, S, R, hr, tx, ho, k⟩ := h
  unfold oNeg at ho
  split at ho
  · cases tx
    exact un_neg pins s σ H _ v Q I rx ⟨_, rfl, k.here hr (.int _) ho⟩
  · exact ho.elim

/-! ### comparisons -/
inductive Co where
  | lt | le | gt | ge | eq | ne | inn | nin | isn | nisn | isb | nisb
  deriving DecidableEq
def Co.op : Co → CmpOp
  | .lt => .Lt | .le => .LtE | .gt => .Gt | .ge => .GtE | .eq => .Eq | .ne => .NotEq | .inn => .In | .nin => .NotIn | .isn => .Is | .nisn => .IsNot | .isb => .Is | .nisb => .IsNot
def oInt (p : Int → Int → Bool) : O2 := fun x y S R => match x, y with
  | .int i, .int j => R (.bl (p i j)) S
  | _, _ => False
def oEq (neg : Bool) : O2 := fun x y S R => match x, y with
  | .int a, .int b => R (.bl (neg ^^ decide (a = b))) S
  | .str a, .str b => R (.bl (neg ^^ decide (a = b))) S
  | .dct _ _, .str _ => neg = false ∧ R (.bl false) S
  | .tup a, .tup [] => R (.bl (neg ^^ a.isEmpty)) S
  | x, y => ∃ d e, topD S x = some d ∧ topD S y = some e ∧ SeqAt.shaped d = true ∧ SeqAt.shaped e = true ∧ R (.bl (neg ^^ PyData.eqv d e)) S
/-- x in a list of data, x in a tuple of flat things, a text in a text -/
def oIn (neg : Bool) : O2 := fun x y S R => match x, y with
  | .str i, .str j => R (.bl (neg ^^ !(Builtin.Str.occurrences j i 0 j.length 1).isEmpty)) S
  | .int i, .tup ts => ∃ js : List Int, ts = js.map .int ∧ R (.bl (neg ^^ js.any fun j => j == i)) S
  | x, y => ∃ d ds, toD x = some d ∧ (∃ ts, lstOf S y = some ts ∧ toDs ts = some ds) ∧ SeqAt.shaped d = true ∧ SeqAt.shaped (.list ds) = true ∧ R (.bl (neg ^^ ds.any fun z => PyData.eqv z d)) S
def isNon : T → Bool
  | .non => true
  | _ => false
def oIsN (neg : Bool) : O2 := fun x y S R => match y with
  | .non => R (.bl (neg ^^ isNon x)) S
  | _ => False
def oIsB (neg : Bool) : O2 := fun x y S R => match x, y with
  | .bl a, .bl b => R (.bl (neg ^^ decide (a = b))) S
  | _, _ => False
def Co.sem : Co → O2
  | .lt => oInt fun i j => decide (i < j)
  | .le => oInt fun i j => decide (i ≤ j)
  | .gt => oInt fun i j => decide (j < i)
  | .ge => oInt fun i j => decide (j ≤ i)
  | .eq => oEq false
  | .ne => oEq true
  | .inn => oIn false
  | .nin => oIn true
  | .isn => oIsN false
  | .nisn => oIsN true
  | .isb => oIsB false
  | .nisb => oIsB true
/-- what the context has to give: room, no guard, the machine's dict in its place -/
structure Roomy (X : Cx) : Prop where
  un : X.A.units + 70 < cLine
  gd : X.A.guards = some []
  sm : ∃ o, X.base.get? sysModules = some o
section
variable {X : Cx}
theorem ok_int {op : CmpOp} {p : Int → Int → Bool} (o : OpR X (compareOp op) (rI0 fun i j => .bl (p i j))) : OpR X (compareOp op) (lO2 X.K (oInt p)) := by
  intro pins s σ H vx vy v u Q I rx ry h
  obtain ⟨z, x, y, S, R, hr, tx, ty, ho, k⟩ := h
  unfold oInt at ho
  split at ho
  · cases tx; cases ty
    exact o pins s σ H _ _ v u Q I rx ry ⟨_, _, rfl, rfl, k.here hr (.bl _) ho⟩
  · exact ho.elim
theorem pair_len {vs : List V} {its : List Value} (h : Vals vs its) : its.length = vs.length := by
  induction h with
  | nil => rfl
  | cons _ _ ih => simp [ih]
theorem tup_nil {X : Cx} {pins : List (Addr × Obj)} {σ : L2.St} {H : Hp} {s : Shared} {z : Addr → Prop} {S : Sto} (I : Inv X pins σ H s) {ts : List T} {v1 v2 : V} (h1 : RT X.K z H S (.tup ts) v1) (h2 : RT X.K z H S (.tup []) v2) : ∃ a b its, v1 = .ref a ∧ v2 = .ref b ∧ s.heap.IsTuple a its ∧ s.heap.IsTuple b #[] ∧ (its.size == 0) = ts.isEmpty := by
  obtain ⟨a, vs, rfl, q1, r1⟩ := h1.sqT
  obtain ⟨b, ws, rfl, q2, r2⟩ := h2.sqT
  obtain ⟨i1, va1, p1, _⟩ := I.tuple q1
  obtain ⟨i2, va2, p2, _⟩ := I.tuple q2
  cases r2
  have e2 : i2 = [] := by
    have := pair_len va2
    simp at this
    exact this
  subst e2
  refine ⟨a, b, _, rfl, rfl, p1, p2, ?_⟩
  have l1 := pair_len va1
  have l2 := r1.len
  cases ts with
  | nil => simp at l2; simp [l2] at l1; simp [l1]
  | cons t ts => 
    simp only [List.length_cons] at l2
    simp only [List.isEmpty_cons, List.size_toArray, beq_eq_false_iff_ne]
    omega
theorem ok_eq (g : Roomy X) : OpR X (compareOp .Eq) (lO2 X.K (oEq false)) := by
  intro pins s σ H vx vy v u Q I rx ry h
  obtain ⟨z, x, y, S, R, hr, tx, ty, ho, k⟩ := h
  unfold oEq at ho
  split at ho
  · cases tx; cases ty
    exact op_eq pins s σ H _ _ v u Q I rx ry ⟨rfl, by simpa using k.here hr (.bl _) ho⟩
  · cases tx; cases ty
    exact op_eq pins s σ H _ _ v u Q I rx ry ⟨rfl, by simpa using k.here hr (.bl _) ho⟩
  · cases ty
    cases tx with
    | dct ea nd e rr =>
      obtain ⟨t, rfl⟩ := ry
      obtain rfl : v = Value.ref _ := rx
      obtain ⟨_, ya, va, ra, da⟩ := (show ObjOk X.prog X.w H s.heap _ (.dK _) from I.hok _ _ ea)
      exact eq_dict_str da (by have := g.un; omega) ⟨.bl _, H, I, rfl, k.here hr (.bl _) ho.2⟩
  · obtain ⟨a, b, its, rfl, rfl, p1, p2, e⟩ := tup_nil I tx ty
    obtain rfl : v = Value.ref _ := rx
    obtain rfl : u = Value.ref _ := ry
    refine SeqAt.eq_tupleAt (e := fun _ => true) p1 p2 (by have := g.un; omega) (fun j _ h2 => absurd h2 (by simp)) ⟨.bl _, H, I, rfl, k.here hr (.bl _) ?_⟩
    simpa [e] using ho
  · obtain ⟨d, e, h1, h2, h3, h4, ho⟩ := ho
    have ns := nosys_of I g.sm
    obtain ⟨as, r1, _⟩ := readsTop I ns hr tx h1 rx
    obtain ⟨bs, r2, _⟩ := readsTop I ns hr ty h2 ry
    exact SeqAt.compareEq_shaped r1 r2 h3 h4 (by have := g.un; omega) ⟨.bl _, H, I, rfl, k.here hr (.bl _) (by simpa using ho)⟩
theorem ok_ne (g : Roomy X) : OpR X (compareOp .NotEq) (lO2 X.K (oEq true)) := by
  intro pins s σ H vx vy v u Q I rx ry h
  obtain ⟨z, x, y, S, R, hr, tx, ty, ho, k⟩ := h
  unfold oEq at ho
  split at ho
  · cases tx; cases ty
    exact op_ne pins s σ H _ _ v u Q I rx ry ⟨rfl, by simpa using k.here hr (.bl _) ho⟩
  · cases tx; cases ty
    exact op_ne pins s σ H _ _ v u Q I rx ry ⟨rfl, by simpa using k.here hr (.bl _) ho⟩
  · exact absurd ho.1 (by decide)
  · obtain ⟨a, b, its, rfl, rfl, p1, p2, e⟩ := tup_nil I tx ty
    obtain rfl : v = Value.ref _ := rx
    obtain rfl : u = Value.ref _ := ry
    refine SeqAt.RcNeAt.tuples (e := fun _ => true) p1 p2 (by have := g.un; omega) (fun j _ h2 => absurd h2 (by simp)) X.prog X.w _ _ ⟨.bl _, H, I, rfl, k.here hr (.bl _) ?_⟩
    simpa [e] using ho
  · obtain ⟨d, e, h1, h2, h3, h4, ho⟩ := ho
    have ns := nosys_of I g.sm
    obtain ⟨as, r1, _⟩ := readsTop I ns hr tx h1 rx
    obtain ⟨bs, r2, _⟩ := readsTop I ns hr ty h2 ry
    exact SeqAt.compareNe_shaped r1 r2 h3 h4 (by have := g.un; omega) ⟨.bl _, H, I, rfl, k.here hr (.bl _) (by simpa using ho)⟩
theorem vals_ints {K : PySem.W.Frag} {z : Addr → Prop} {H : Hp} {S : Sto} : ∀ {js : List Int} {vs : List V}, RTs K z H S (js.map .int) vs → vs = js.map .int
  | [], _, h => by cases h; rfl
  | j :: js, _, h => by
    cases h with
    | cons h r => cases h; rw [vals_ints r]; rfl
theorem inV_ints (i : Int) : ∀ js : List Int, inV (.int i) (js.map V.int) = js.any fun j => j == i
  | [] => rfl
  | j :: js => by
    show (eqV (.int j) (.int i) || inV (.int i) (js.map V.int)) = _
    rw [inV_ints i js, List.any_cons]
    rfl
theorem flat_ints : ∀ js : List Int, (js.map V.int).all flatV = true
  | [] => rfl
  | j :: js => by simp [flatV]
mutual
theorem dp_of {K : PySem.W.Frag} {z : Addr → Prop} {H : Hp} {S : Sto} : ∀ (t : T) (v : V) (d : PyData), RT K z H S t v → toD t = some d → d.hasDict = false → Dp K H v d
  | .non, _, _, h, e, n => by cases h; cases e; exact .non
  | .bl _, _, _, h, e, n => by cases h; cases e; exact .bl _
  | .int _, _, _, h, e, n => by cases h; cases e; exact .int _
  | .str _, _, _, h, e, n => by cases h; cases e; exact .str _
  | .ty _, _, _, h, e, n => by cases e
  | .ref _, _, _, h, e, n => by cases e
  | .tup ts, v, d, h, e, n => by
    obtain ⟨ds, e1, rfl⟩ : ∃ ds, toDs ts = some ds ∧ d = .tuple ds := by
      simp only [toD, Option.map_eq_some_iff] at e; obtain ⟨ds, a, b⟩ := e; exact ⟨ds, a, b.symm⟩
    obtain ⟨a, vs, rfl, q, rr⟩ := h.sqT
    exact .tup q (dpAll_of ts vs ds rr e1 (by simpa [PyData.hasDict] using n))
  | .lst ts, v, d, h, e, n => by
    obtain ⟨ds, e1, rfl⟩ : ∃ ds, toDs ts = some ds ∧ d = .list ds := by
      simp only [toD, Option.map_eq_some_iff] at e; obtain ⟨ds, a, b⟩ := e; exact ⟨ds, a, b.symm⟩
    obtain ⟨a, vs, rfl, q, rr⟩ := h.sqL
    exact .lst (SqL.of q) (dpAll_of ts vs ds rr e1 (by simpa [PyData.hasDict] using n))
  | .scr ts, v, d, h, e, n => by
    obtain ⟨ds, e1, rfl⟩ : ∃ ds, toDs ts = some ds ∧ d = .list ds := by
      simp only [toD, Option.map_eq_some_iff] at e; obtain ⟨ds, a, b⟩ := e; exact ⟨ds, a, b.symm⟩
    obtain ⟨a, vs, rfl, q, rr⟩ := h.sqS
    exact .lst q (dpAll_of ts vs ds rr e1 (by simpa [PyData.hasDict] using n))
  | .dct ks ts, v, d, h, e, n => by
    simp only [toD, Option.bind_eq_some_iff] at e
    obtain ⟨ds, e1, e2⟩ := e
    split at e2
    · cases e2; simp [PyData.hasDict] at n
    · cases e2
theorem dpAll_of {K : PySem.W.Frag} {z : Addr → Prop} {H : Hp} {S : Sto} : ∀ (ts : List T) (vs : List V) (ds : List PyData), RTs K z H S ts vs → toDs ts = some ds → PyData.hasDictAll ds = false → DpAll K H vs ds
  | [], _, _, h, e, n => by cases h; cases e; exact .nil
  | t :: ts, _, ds, h, e, n => by
    cases h with
    | cons h hr =>
      simp only [toDs] at e
      split at e
      · rename_i d ds' e1 e2
        cases e
        simp only [PyData.hasDictAll, Bool.or_eq_false_iff] at n
        exact .cons (dp_of t _ d h e1 n.1) (dpAll_of ts _ ds' hr e2 n.2)
      · cases e
end
mutual
theorem noDict_canLay : ∀ d : PyData, d.canLay0 = true → d.hasDict = false
  | .none, _ => rfl
  | .bool _, _ => rfl
  | .int _, _ => rfl
  | .str _, _ => rfl
  | .list xs, h => by simp only [PyData.canLay0] at h; simp only [PyData.hasDict]; exact noDict_canLayAll xs h
  | .tuple xs, h => by simp only [PyData.canLay0] at h; simp only [PyData.hasDict]; exact noDict_canLayAll xs h
  | .dict _, h => by simp [PyData.canLay0] at h
theorem noDict_canLayAll : ∀ ds : List PyData, PyData.canLayAll0 ds = true → PyData.hasDictAll ds = false
  | [], _ => rfl
  | d :: ds, h => by
    simp only [PyData.canLayAll0, Bool.and_eq_true] at h
    simp only [PyData.hasDictAll, noDict_canLay d h.1, noDict_canLayAll ds h.2, Bool.or_false]
end
theorem noDict_shaped {d : PyData} (h : SeqAt.shaped d = true) : d.hasDict = false := noDict_canLay d (SeqAt.canLay_of_shaped h)
theorem ok_in (g : Roomy X) : OpR X (compareOp .In) (lO2 X.K (oIn false)) := by
  intro pins s σ H vx vy v u Q I rx ry h
  obtain ⟨z, x, y, S, R, hr, tx, ty, ho, k⟩ := h
  unfold oIn at ho
  split at ho
  · cases tx; cases ty
    exact op_in_str pins s σ H _ _ v u Q I rx ry ⟨_, _, rfl, rfl, k.here hr (.bl _) (by simpa using ho)⟩
  · obtain ⟨js, rfl, ho⟩ := ho
    cases tx
    obtain ⟨a, vs, rfl, q, rr⟩ := ty.sqT
    obtain rfl := vals_ints rr
    refine op_in_seq pins s σ H _ _ v u Q I rx ry ⟨a, _, rfl, .inr q, rfl, flat_ints js, ?_⟩
    rw [inV_ints]
    exact k.here hr (.bl _) (by simpa using ho)
  · obtain ⟨d, ds, h1, ⟨ts, h2, h3⟩, h4, h5, ho⟩ := ho
    obtain ⟨a, vs, rfl, q, rr⟩ := lst_rel hr ty h2
    refine op_inD (by have := g.un; omega) pins s σ H _ _ v u Q I rx ry ⟨d, ds, dp_of _ _ _ tx h1 (noDict_shaped h4), .lst (SqL.of q) (dpAll_of _ _ _ rr h3 ?_), h4, h5, k.here hr (.bl _) (by simpa using ho)⟩
    have := noDict_shaped h5
    simpa [PyData.hasDict] using this
theorem ok_nin (g : Roomy X) : OpR X (compareOp .NotIn) (lO2 X.K (oIn true)) := by
  intro pins s σ H vx vy v u Q I rx ry h
  obtain ⟨z, x, y, S, R, hr, tx, ty, ho, k⟩ := h
  unfold oIn at ho
  split at ho
  · cases tx; cases ty
    exact L2.op_notin_str pins s σ H _ _ v u Q I rx ry ⟨_, _, rfl, rfl, k.here hr (.bl _) (by simpa using ho)⟩
  · obtain ⟨js, rfl, ho⟩ := ho
    cases tx
    obtain ⟨a, vs, rfl, q, rr⟩ := ty.sqT
    obtain rfl := vals_ints rr
    refine op_notIn_seq pins s σ H _ _ v u Q I rx ry ⟨a, _, rfl, .inr q, rfl, flat_ints js, ?_⟩
    rw [inV_ints]
    exact k.here hr (.bl _) (by simpa using ho)
  · obtain ⟨d, ds, h1, ⟨ts, h2, h3⟩, h4, h5, ho⟩ := ho
    obtain ⟨a, vs, rfl, q, rr⟩ := lst_rel hr ty h2
    refine op_notInD (by have := g.un; omega) pins s σ H _ _ v u Q I rx ry ⟨d, ds, dp_of _ _ _ tx h1 (noDict_shaped h4), .lst (SqL.of q) (dpAll_of _ _ _ rr h3 ?_), h4, h5, k.here hr (.bl _) (by simpa using ho)⟩
    have := noDict_shaped h5
    simpa [PyData.hasDict] using this
theorem isnon_rel {K : PySem.W.Frag} {z : Addr → Prop} {H : Hp} {S : Sto} {x : T} {v : V} (h : RT K z H S x v) : decide (v = .non) = isNon x := by
  cases h <;> rfl
theorem ok_isn : OpR X (compareOp .Is) (lO2 X.K (oIsN false)) := by
  intro pins s σ H vx vy v u Q I rx ry h
  obtain ⟨z, x, y, S, R, hr, tx, ty, ho, k⟩ := h
  unfold oIsN at ho
  split at ho
  · cases ty
    refine op_isN pins s σ H _ _ v u Q I rx ry ⟨rfl, ?_⟩
    rw [isnon_rel tx]
    exact k.here hr (.bl _) (by simpa using ho)
  · exact ho.elim
theorem ok_nisn : OpR X (compareOp .IsNot) (lO2 X.K (oIsN true)) := by
  intro pins s σ H vx vy v u Q I rx ry h
  obtain ⟨z, x, y, S, R, hr, tx, ty, ho, k⟩ := h
  unfold oIsN at ho
  split at ho
  · cases ty
    refine op_notN pins s σ H _ _ v u Q I rx ry ⟨rfl, ?_⟩
    rw [isnon_rel tx]
    exact k.here hr (.bl _) (by simpa using ho)
  · exact ho.elim
theorem ok_isb : OpR X (compareOp .Is) (lO2 X.K (oIsB false)) := by
  intro pins s σ H vx vy v u Q I rx ry h
  obtain ⟨z, x, y, S, R, hr, tx, ty, ho, k⟩ := h
  unfold oIsB at ho
  split at ho
  · cases tx; cases ty
    exact op_isBl pins s σ H _ _ v u Q I rx ry ⟨_, _, rfl, rfl, k.here hr (.bl _) (by simpa using ho)⟩
  · exact ho.elim
theorem ok_nisb : OpR X (compareOp .IsNot) (lO2 X.K (oIsB true)) := by
  intro pins s σ H vx vy v u Q I rx ry h
  obtain ⟨z, x, y, S, R, hr, tx, ty, ho, k⟩ := h
  unfold oIsB at ho
  split at ho
  · cases tx; cases ty
    exact op_notBl pins s σ H _ _ v u Q I rx ry ⟨_, _, rfl, rfl, k.here hr (.bl _) (by simpa using ho)⟩
  · exact ho.elim
theorem ok_cmp (g : Roomy X) (c : Co) : OpR X (compareOp c.op) (lO2 X.K c.sem) := by
  cases c
  · exact ok_int op_lt
  · exact ok_int op_le
  · exact ok_int op_gt
  · exact ok_int op_ge
  · exact ok_eq g
  · exact ok_ne g
  · exact ok_in g
  · exact ok_nin g
  · exact ok_isn
  · exact ok_nisn
  · exact ok_isb
  · exact ok_nisb
end
end TP

set_option maxHeartbeats 1000000
namespace TP
open PySem PySem.Spec PyProof.Rows L2

/-! ### kinds -/
inductive Ty where
  | int | bool | str | tuple | list | dict | none
  deriving DecidableEq
def Ty.name : Ty → String
  | .int => "int" | .bool => "bool" | .str => "str" | .tuple => "tuple" | .list => "list" | .dict => "dict" | .none => "NoneType"
/-- a value of kind a is an instance of b -/
def Ty.sub : Ty → Ty → Bool
  | .int, .int => true | .bool, .bool => true | .bool, .int => true | .str, .str => true | .tuple, .tuple => true | .list, .list => true | .dict, .dict => true | .none, .none => true
  | _, _ => false
theorem kit_sub (a b : Ty) : kitB a.name b.name = some (a.sub b) := by
  cases a <;> cases b <;> decide +kernel
def typ (S : Sto) : T → Option Ty
  | .non => some .none | .bl _ => some .bool | .int _ => some .int | .str _ => some .str | .tup _ => some .tuple | .lst _ => some .list | .scr _ => some .list | .dct _ _ => some .dict
  | .ref a => match S a with
    | some (.lst _) => some .list
    | some (.dct _) => some .dict
    | _ => .none
  | .ty _ => .none
section
variable {X : Cx} {pins : List (Addr × Obj)} {σ : L2.St} {H : Hp} {s : Shared} {S : Sto} {z : Addr → Prop}
theorem typ_rel {K : PySem.W.Frag} (hr : HR K z H S) {t : T} {v : V} {y : Ty} (h : RT K z H S t v) (e : typ S t = some y) : TyX K H v (.type y.name) := by
  cases t with
  | non => cases e; cases h; exact .base .non
  | bl _ => cases e; cases h; exact .base (.bl _)
  | int _ => cases e; cases h; exact .base (.int _)
  | str _ => cases e; cases h; exact .base (.str _)
  | tup _ =>
    cases e
    cases h with
    | tup h _ _ => exact .base (.tup h)
    | tupK h _ => obtain ⟨o, its, n, h1, h2, _⟩ := h; exact .kTuple h1 h2
  | lst _ => cases e; cases h with
    | lst h _ _ => exact .base (.lst h)
  | scr _ => cases e; cases h with
    | scr h _ _ => exact .base (.frz h)
  | dct _ _ => cases e; cases h with
    | dct h _ _ _ => exact .base (.dK h)
  | ty _ => cases e
  | ref a =>
    cases h
    simp only [typ] at e
    split at e
    · rename_i q
      cases e
      obtain ⟨vs, q, _⟩ := hr.lst q
      exact .base (.lst q)
    · rename_i q
      cases e
      obtain ⟨vs, q, _⟩ := hr.dct q
      exact .base (.dK q)
    · cases e
def oIsi (y : Ty) : O1 := fun x S R => ∃ t, typ S x = some t ∧ R (.bl (t.sub y)) S
theorem ok_isi (y : Ty) : CallR X (.builtin "isinstance") (fun vs H Q => ∃ v, vs = [v, .ty y.name] ∧ lO1 X.K (oIsi y) v H Q) := by
  intro pins s σ H vs us Q I r h
  obtain ⟨v, rfl, z, x, S, R, hr, tx, ⟨t, e, ho⟩, k⟩ := h
  exact call_isi pins s σ H _ us Q I r ⟨v, _, _, _, _, rfl, .ty _, typ_rel hr tx e, kit_ty (kit_sub t y), k.here hr (.bl _) ho⟩
def subAny (t : Ty) (ys : List Ty) : Bool := ys.any fun y => t.sub y
theorem kit_any {K : PySem.W.Frag} (t : Ty) : ∀ ys : List Ty, PySem.W.kitAny K (.type t.name) (ys.map fun y => Value.type y.name) = some (subAny t ys)
  | [] => kitAny_nil
  | y :: ys => by
    refine kitAny_cons (kit_ty (kit_sub t y)) (fun h => ?_) (fun h => ?_)
    · have : subAny t (y :: ys) = subAny t ys := by simp [subAny, h]
      rw [this]; exact kit_any t ys
    · simp [subAny, h]
theorem cls_all : ∀ ys : List Ty, Paired ClsV (ys.map fun y => V.ty y.name) (ys.map fun y => Value.type y.name)
  | [] => .nil
  | y :: ys => .cons (.ty _) (cls_all ys)
def oIsiT (ys : List Ty) : O1 := fun x S R => ∃ t, typ S x = some t ∧ R (.bl (subAny t ys)) S

/-! ### items -/
def atT (ts : List T) (i : Int) : Option T := (ixN ts.length i).bind fun j => ts[j]?
def oIx : O2 := fun x y S R => match x, y with
  | .str z, .int i => z.length ≤ sizeLine ∧ ∃ c, atI z.cps.toList i = some c ∧ R (.str ⟨#[c]⟩) S
  | x, .int i => match seqOf S x with
    | some ts => ∃ t, atT ts i = some t ∧ R t S
    | none => False
  | _, _ => False
theorem at_rel {K : PySem.W.Frag} {ts : List T} {vs : List V} {i : Int} {t : T} (r : RTs K z H S ts vs) (e : atT ts i = some t) : ∃ v, atI vs i = some v ∧ RT K z H S t v := by
  simp only [atT, Option.bind_eq_some_iff] at e
  obtain ⟨j, e1, e2⟩ := e
  obtain ⟨v, q, rt⟩ := r.get' e2
  exact ⟨v, by unfold atI; rw [r.len, e1]; exact q, rt⟩
theorem ok_ix : IxR X (lO2 X.K oIx) := by
  intro ev es' pins s σ H vx vy v u Q I rx ry h hsub
  obtain ⟨z, x, y, S, R, hr, tx, ty, ho, k⟩ := h
  unfold oIx at ho
  split at ho
  · cases tx; cases ty
    obtain ⟨h1, c, h2, h3⟩ := ho
    exact ix_seq ev es' pins s σ H _ _ v u Q I rx ry (.inr (.inr ⟨_, _, c, rfl, rfl, h1, h2, k.here hr (.str _) h3⟩)) hsub
  · split at ho
    · rename_i es
      cases ty
      obtain ⟨t, e, ho⟩ := ho
      obtain ⟨a, vs, rfl, q, rr⟩ := seq_rel hr tx es
      obtain ⟨w, e2, rt⟩ := at_rel rr e
      rcases q with q | q
      · exact ix_seq ev es' pins s σ H _ _ v u Q I rx ry (.inl ⟨a, vs, _, w, rfl, rfl, q, e2, k.here hr rt ho⟩) hsub
      · exact ix_seq ev es' pins s σ H _ _ v u Q I rx ry (.inr (.inl ⟨a, vs, _, w, rfl, rfl, q, e2, k.here hr rt ho⟩)) hsub
    · exact ho.elim
  · exact ho.elim

/-! ### slices -/
def cutT {α : Type} (ts : List α) (lo hi : Option Int) : List α := (ts.drop (HT.sIx ts.length 0 lo)).take (HT.sIx ts.length ts.length hi - HT.sIx ts.length 0 lo)
theorem cut_rel {K : PySem.W.Frag} {ts : List T} {vs : List V} (r : RTs K z H S ts vs) (lo hi : Option Int) : RTs K z H S (cutT ts lo hi) (cutV vs lo hi) := by
  unfold cutT cutV
  rw [r.len]
  exact (r.drop _).take _
theorem cut_whole {ts : List T} {lo hi : Option Int} (h : HT.sIx ts.length 0 lo = 0 ∧ HT.sIx ts.length ts.length hi = ts.length) : cutT ts lo hi = ts := by
  unfold cutT
  rw [h.1, h.2]
  simp
abbrev OS := T → Option Int → Option Int → Sto → RP → Prop
def oSl : OS := fun x lo hi S R => match x with
  | .tup ts => R (.tup (cutT ts lo hi)) S
  | .str z => z.length ≤ sizeLine ∧ R (.str (cutS z lo hi)) S
  | x => match lstOf S x with
    | some ts => ∀ p, S p = none → R (.ref p) (up S p (.lst (cutT ts lo hi)))
    | none => False
def lOS (K : PySem.W.Frag) (o : OS) : V → Option Int → Option Int → Hp → VK → Prop := fun v lo hi H Q => ∃ z x S R, HR K z H S ∧ RT K z H S x v ∧ o x lo hi S R ∧ lQ K z H S R Q
theorem ok_sl : SlR X (lOS X.K oSl) := by
  intro pins s σ H vx v vl vu lo hi sl Q I rx hs pl pu h
  obtain ⟨z, x, S, R, hr, tx, ho, k⟩ := h
  unfold oSl at ho
  split at ho
  · obtain ⟨a, vs, rfl, q, rr⟩ := tx.sqT
    refine sl_tupA pins s σ H _ v vl vu lo hi sl Q I rx hs pl pu ⟨a, vs, rfl, q, fun w => ?_, fun _ p n => k.tup hr (cut_rel rr lo hi) ho n⟩
    rw [rr.len] at w
    rw [cut_whole w] at ho
    exact k.here hr tx ho
  · cases tx
    exact sl_str pins s σ H _ v vl vu lo hi sl Q I rx hs pl pu ⟨_, rfl, ho.1, k.here hr (.str _) ho.2⟩
  · split at ho
    · rename_i es
      obtain ⟨a, vs, rfl, q, rr⟩ := lst_rel hr tx es
      exact sl_list pins s σ H _ v vl vu lo hi sl Q I rx hs pl pu ⟨a, vs, rfl, SqL.of q, fun p n => k.lst hr (cut_rel rr lo hi) ho n⟩
    · exact ho.elim

/-! ### calls of built-in things -/
def oLen : OC := fun xs S R => match xs with
  | [.str z] => z.length ≤ sizeLine ∧ R (.int z.length) S
  | [x] => match seqOf S x with
    | some ts => R (.int ts.length) S
    | none => False
  | _ => False
theorem ok_len : CallR X (.builtin "len") (lOC X.K oLen) := by
  intro pins s σ H vs us Q I r h
  obtain ⟨z, xs, S, R, hr, tx, ho, k⟩ := h
  unfold oLen at ho
  split at ho
  · cases tx with
    | cons t r0 =>
      cases r0; cases t
      exact call_len_str pins s σ H _ us Q I r ⟨_, rfl, ho.1, k.here hr (.int _) ho.2⟩
  · split at ho
    · rename_i es
      cases tx with
      | cons t r0 =>
        cases r0
        obtain ⟨a, vs, rfl, q, rr⟩ := seq_rel hr t es
        refine call_len_seq pins s σ H _ us Q I r ⟨a, vs, rfl, q, ?_⟩
        rw [rr.len]
        exact k.here hr (.int _) ho
    · exact ho.elim
  · exact ho.elim
def oAbs : OC := fun xs S R => match xs with
  | [.int i] => R (.int (if i < 0 then -i else i)) S
  | _ => False
theorem ok_abs : CallR X (.builtin "abs") (lOC X.K oAbs) := by
  intro pins s σ H vs us Q I r h
  obtain ⟨z, xs, S, R, hr, tx, ho, k⟩ := h
  unfold oAbs at ho
  split at ho
  · cases tx with
    | cons t r0 =>
      cases r0; cases t
      exact call_abs pins s σ H _ us Q I r ⟨_, rfl, k.here hr (.int _) ho⟩
  · exact ho.elim
def oInt1 : OC := fun xs S R => match xs with
  | [.int i] => R (.int i) S
  | [.bl b] => R (.int (if b then 1 else 0)) S
  | [.str a] => ∃ n, PySem.intText? a = some n ∧ a.length ≤ 640 ∧ R (.int n) S
  | _ => False
theorem ok_int1 : CallR X (.type "int") (lOC X.K oInt1) := by
  intro pins s σ H vs us Q I r h
  obtain ⟨z, xs, S, R, hr, tx, ho, k⟩ := h
  unfold oInt1 at ho
  split at ho
  · cases tx with
    | cons t r0 =>
      cases r0; cases t
      exact call_int1 pins s σ H _ us Q I r (.inl ⟨_, rfl, k.here hr (.int _) ho⟩)
  · cases tx with
    | cons t r0 =>
      cases r0; cases t
      exact call_int1 pins s σ H _ us Q I r (.inr ⟨_, rfl, k.here hr (.int _) ho⟩)
  · cases tx with
    | cons t r0 =>
      cases r0; cases t
      obtain ⟨n, h1, h2, h3⟩ := ho
      exact call_int_str pins s σ H _ us Q I r ⟨_, n, rfl, h1, h2, k.here hr (.int _) h3⟩
  · exact ho.elim
def oTup : OC := fun xs S R => match xs with
  | [x] => match seqOf S x with
    | some ts => R (.tup ts) S
    | none => False
  | _ => False
theorem tup_two (I : Inv X pins σ H s) (hr : HR X.K z H S) {x : T} {a : Addr} {ts : List T} {vs : List V} (t : RT X.K z H S x (.ref a)) (es : seqOf S x = some ts) (q : SqT X.K H a vs) : x = .tup ts := by
  have no : ∀ {ws : List V}, H a = some (.lst ws) → False := fun {ws} h => by
    rcases q with (q | ⟨o, q⟩) | ⟨o, its, n, q1, q2, _⟩
    · rw [h] at q; cases q
    · rw [h] at q; cases q
    · obtain ⟨_, its', n', _, ho'⟩ := I.hok _ _ h
      rw [I.kIn _ o q1] at ho'
      cases ho'
      simp at q2
  cases x with
  | tup us => cases es; rfl
  | lst us =>
    cases t with
    | lst h _ _ => exact (no h).elim
  | scr us =>
    cases t with
    | scr h _ _ =>
      rcases q with (q | ⟨o, q⟩) | ⟨o, its, n, q1, q2, _⟩
      · rw [h] at q; cases q
      · rw [h] at q; cases q
      · obtain ⟨_, _, its', n', _, ho'⟩ := I.hok _ _ h
        rw [I.kIn _ o q1] at ho'
        cases ho'
        simp at q2
  | ref b =>
    cases t
    simp only [seqOf] at es
    split at es
    · rename_i e
      obtain ⟨ws, h, _⟩ := hr.lst e
      exact (no h).elim
    · cases es
  | _ => cases es
theorem ok_tup : CallR X (.type "tuple") (lOC X.K oTup) := by
  intro pins s σ H vs us Q I r h
  obtain ⟨z, xs, S, R, hr, tx, ho, k⟩ := h
  unfold oTup at ho
  split at ho
  · split at ho
    · rename_i es
      cases tx with
      | cons t r0 =>
        cases r0
        obtain ⟨a, vs, rfl, q, rr⟩ := seq_rel hr t es
        refine call_tuple_of pins s σ H _ us Q I r ⟨a, vs, rfl, ?_⟩
        rcases q with q | q
        · exact .inl ⟨q, fun p n => k.tup hr rr ho n⟩
        · obtain rfl := tup_two I hr t es q
          exact .inr ⟨q, k.here hr t ho⟩
    · exact ho.elim
  · exact ho.elim
def oList : OC := fun xs S R => match xs with
  | [x] => match seqOf S x with
    | some ts => ∀ p, S p = none → R (.ref p) (up S p (.lst ts))
    | none => False
  | _ => False
theorem ok_list : CallR X (.type "list") (lOC X.K oList) := by
  intro pins s σ H vs us Q I r h
  obtain ⟨z, xs, S, R, hr, tx, ho, k⟩ := h
  unfold oList at ho
  split at ho
  · split at ho
    · rename_i es
      cases tx with
      | cons t r0 =>
        cases r0
        obtain ⟨a, vs, rfl, q, rr⟩ := seq_rel hr t es
        exact call_list_of pins s σ H _ us Q I r ⟨a, vs, rfl, q, fun p n => k.lst hr rr ho n⟩
    · exact ho.elim
  · exact ho.elim
theorem vals_bls {K : PySem.W.Frag} : ∀ {bs : List Bool} {vs : List V}, RTs K z H S (bs.map .bl) vs → vs = bs.map .bl
  | [], _, h => by cases h; rfl
  | j :: js, _, h => by
    cases h with
    | cons h r => cases h; rw [vals_bls r]; rfl
/-- all | any of a list of truths -/
def oAll (any : Bool) : OC := fun xs S R => match xs with
  | [x] => ∃ bs : List Bool, lstOf S x = some (bs.map .bl) ∧ R (.bl (if any then bs.any id else bs.all id)) S
  | _ => False
theorem ok_all (hc : X.calm = true) : CallR X (.builtin "all") (lOC X.K (oAll false)) := by
  intro pins s σ H vs us Q I r h
  obtain ⟨z, xs, S, R, hr, tx, ho, k⟩ := h
  unfold oAll at ho
  split at ho
  · obtain ⟨bs, e, ho⟩ := ho
    cases tx with
    | cons t r0 =>
      cases r0
      obtain ⟨a, vs, rfl, q, rr⟩ := lst_rel hr t e
      obtain rfl := vals_bls rr
      exact cr_all hc pins s σ H _ us Q I r ⟨a, bs, rfl, SqL.of q, k.here hr (.bl _) (by simpa using ho)⟩
  · exact ho.elim
theorem ok_any (hc : X.calm = true) : CallR X (.builtin "any") (lOC X.K (oAll true)) := by
  intro pins s σ H vs us Q I r h
  obtain ⟨z, xs, S, R, hr, tx, ho, k⟩ := h
  unfold oAll at ho
  split at ho
  · obtain ⟨bs, e, ho⟩ := ho
    cases tx with
    | cons t r0 =>
      cases r0
      obtain ⟨a, vs, rfl, q, rr⟩ := lst_rel hr t e
      obtain rfl := vals_bls rr
      exact cr_any hc pins s σ H _ us Q I r ⟨a, bs, rfl, SqL.of q, k.here hr (.bl _) (by simpa using ho)⟩
  · exact ho.elim
def oSum : OC := fun xs S R => match xs with
  | [x] => ∃ ns : List Int, lstOf S x = some (ns.map .int) ∧ R (.int ns.sum) S
  | _ => False
theorem ok_sum (hc : X.calm = true) : CallR X (.builtin "sum") (lOC X.K oSum) := by
  intro pins s σ H vs us Q I r h
  obtain ⟨z, xs, S, R, hr, tx, ho, k⟩ := h
  unfold oSum at ho
  split at ho
  · obtain ⟨bs, e, ho⟩ := ho
    cases tx with
    | cons t r0 =>
      cases r0
      obtain ⟨a, vs, rfl, q, rr⟩ := lst_rel hr t e
      obtain rfl := vals_ints rr
      exact cr_sum hc pins s σ H _ us Q I r ⟨a, bs, rfl, SqL.of q, k.here hr (.int _) ho⟩
  · exact ho.elim
def oMax : OC := fun xs S R => match xs with
  | [.int i, .int j] => R (.int (if j > i then j else i)) S
  | _ => False
theorem ok_max (hc : X.calm = true) : CallR X (.builtin "max") (lOC X.K oMax) := by
  intro pins s σ H vs us Q I r h
  obtain ⟨z, xs, S, R, hr, tx, ho, k⟩ := h
  unfold oMax at ho
  split at ho
  · cases tx with
    | cons t r0 =>
      cases r0 with
      | cons t2 r0 =>
        cases r0; cases t; cases t2
        exact call_max2 hc pins s σ H _ us Q I r ⟨_, _, rfl, k.here hr (.int _) ho⟩
  · exact ho.elim
def oGcd : OC := fun xs S R => match xs with
  | [.int i, .int j] => R (.int ((Nat.gcd i.natAbs j.natAbs : Nat) : Int)) S
  | _ => False
theorem ok_gcd : CallR X (.builtin "math.gcd") (lOC X.K oGcd) := by
  intro pins s σ H vs us Q I r h
  obtain ⟨z, xs, S, R, hr, tx, ho, k⟩ := h
  unfold oGcd at ho
  split at ho
  · cases tx with
    | cons t r0 =>
      cases r0 with
      | cons t2 r0 =>
        cases r0; cases t; cases t2
        exact cr_gcd pins s σ H _ us Q I r ⟨_, _, rfl, k.here hr (.int _) ho⟩
  · exact ho.elim
/-- what may be shown -/
structure Showy (d : PyData) : Prop where
  ok : d.showable = true
  dp : d.depth ≤ 60
  sz : d.shown.length ≤ sizeLine
def oRepr : OC := fun xs S R => match xs with
  | [x] => ∃ d, topD S x = some d ∧ Showy d ∧ R (.str d.shown) S
  | _ => False
theorem read_ref (d : PyData) (h : Heap) (a : Addr) (as : List Addr) (r : Reads h (.ref a) d as) : True := trivial
theorem ok_repr (g : Roomy X) : CallR X (.builtin "repr") (lOC X.K oRepr) := by
  intro pins s σ H vs us Q I r h
  obtain ⟨z, xs, S, R, hr, tx, ho, k⟩ := h
  unfold oRepr at ho
  split at ho
  · obtain ⟨d, e, sh, ho⟩ := ho
    cases tx with
    | cons t r0 =>
      cases r0
      obtain ⟨u, rfl, ru⟩ := vals1 r
      obtain ⟨as, rd, nm⟩ := readsTop I (nosys_of I g.sm) hr t e ru
      have fin : ∀ (h' : Heap) (w' : Tok) (tk : Nat), (∀ b o, s.heap.get? b = some o → h'.get? b = some o) → EP X pins σ Q (.str d.shown w') { s with heap := h', toks := tk } := fun h' w' tk kp =>
        ⟨.str d.shown, H, I.kept (t' := tk) kp, ⟨_, rfl⟩, k.here hr (.str _) ho⟩
      have hu := g.un
      have big : ∀ a, u = .ref a → wpAny (model X.prog X.w) X.A (call (.builtin "repr") [u]) (EP X pins σ Q) X.xe s := fun a ea => by
        subst ea
        exact repr_of_reads' rd sh.ok (fun _ => nm) g.gd (by have := sh.dp; omega) (fun _ _ e => e) fin sh.sz
      cases rd with
      | none => exact PySem.P.repr_of_none (fin _ _ _ fun _ _ e => e)
      | bool b => exact PySem.P.repr_of_bool (fin _ _ _ fun _ _ e => e)
      | int i t => exact PySem.P.repr_of_int (of_decide_eq_true (by simpa [PyData.showable] using sh.ok)) (fin _ _ _ fun _ _ e => e)
      | str x t => exact PySem.P.repr_of_str (fin _ _ _ fun _ _ e => e) sh.sz
      | list => exact big _ rfl
      | tuple => exact big _ rfl
      | dict => exact big _ rfl
  · exact ho.elim

/-! ### methods -/
def isL (S : Sto) (x : T) : Prop := ∃ a ts, x = .ref a ∧ S a = some (.lst ts)
def oAppend : OM := fun x xs S R => match x, xs with
  | .ref a, [y] => match S a with
    | some (.lst ts) => ts.length < sizeLine ∧ R .non (up S a (.lst (ts ++ [y])))
    | _ => False
  | _, _ => False
theorem lQ.put {K : PySem.W.Frag} {R : RP} {Q : VK} (k : lQ K z H S R Q) (hr : HR K z H S) {a : Addr} {ts us : List T} {ws : List V} (e : S a = some (.lst ts)) (t : RTs K z H S us ws) {r : T} {v : V} (rt : RT K z H S r v) (q : R r (up S a (.lst us))) : Q v (upd H a (.lst ws)) :=
  k _ _ _ _ (Ext.write e) (hr.write (c' := .lst us) e ⟨ws, upd_same, t.mn (Ext.write e)⟩) (rt.mn (Ext.write e)) q
theorem ok_append : MtR X "list.append" (lOM X.K oAppend) := by
  intro pins s σ H v vs u us Q I rx r h
  obtain ⟨z, x, xs, S, R, hr, tx, txs, ho, k⟩ := h
  unfold oAppend at ho
  split at ho
  · split at ho
    · rename_i e
      cases tx
      cases txs with
      | cons t r0 =>
        cases r0
        obtain ⟨ws, q, rr⟩ := hr.lst e
        exact mt_append pins s σ H _ _ u us Q I rx r ⟨_, ws, _, rfl, rfl, q, by rw [rr.len]; exact ho.1, k.put hr e (rr.app (.cons t .nil)) .non ho.2⟩
    · exact ho.elim
  · exact ho.elim
def oPop : OM := fun x xs S R => match x, xs with
  | .ref a, [] => match S a with
    | some (.lst ts) => ∃ y, ts[ts.length - 1]? = some y ∧ R y (up S a (.lst ts.dropLast))
    | _ => False
  | .ref a, [.int i] => match S a with
    | some (.lst ts) => ∃ k y, (-(2 ^ 63) ≤ i ∧ i < 2 ^ 63) ∧ seqIndex? i ts.length = some k ∧ ts[k]? = some y ∧ R y (up S a (.lst (ts.eraseIdx k)))
    | _ => False
  | _, _ => False
theorem ok_pop : MtR X "list.pop" (lOM X.K oPop) := by
  intro pins s σ H v vs u us Q I rx r h
  obtain ⟨z, x, xs, S, R, hr, tx, txs, ho, k⟩ := h
  unfold oPop at ho
  split at ho
  · split at ho
    · rename_i e
      cases tx
      cases txs
      obtain ⟨y, e1, ho⟩ := ho
      obtain ⟨ws, q, rr⟩ := hr.lst e
      obtain ⟨w, e2, rt⟩ := rr.get' e1
      exact mt_pop pins s σ H _ _ u us Q I rx r ⟨_, ws, w, rfl, rfl, q, by rw [rr.len]; exact e2, k.put hr e rr.dropLast rt ho⟩
    · exact ho.elim
  · split at ho
    · rename_i e
      cases tx
      cases txs with
      | cons t r0 =>
        cases r0; cases t
        obtain ⟨j, y, h1, h2, e1, ho⟩ := ho
        obtain ⟨ws, q, rr⟩ := hr.lst e
        obtain ⟨w, e2, rt⟩ := rr.get' e1
        exact mt_popAt pins s σ H _ _ u us Q I rx r ⟨_, ws, _, j, w, rfl, rfl, q, h1.1, h1.2, by rw [rr.len]; exact h2, e2, k.put hr e (rr.erase j) rt ho⟩
    · exact ho.elim
  · exact ho.elim
end
end TP

set_option maxHeartbeats 2000000
namespace TP
open PySem PySem.Spec PyProof.Rows L2

/-! ### defs by their promises -/
abbrev TSp := List T → Sto → RP → XP → Prop
def lX (K : PySem.W.Frag) (z : Addr → Prop) (H : Hp) (S : Sto) (X : XP) (E : Value → Option Addr → Hp → Prop) : Prop := ∀ x S' c d H', Ext H S H' S' → HR K z H' S' → XRel K z H' S' x c d → X x S' → E c d H'
def lSp (K : PySem.W.Frag) (sp : TSp) : Sp := fun vs H Q E => ∃ z ts S R X, RTs K z H S ts vs ∧ HR K z H S ∧ sp ts S R X ∧ lQ K z H S R Q ∧ lX K z H S X E
/-- a def keeps its promise wherever nothing is being shown -/
structure FnG (P : Program) (w : World) (K : PySem.W.Frag) (mg : Str → Option Value) (base : Heap) (k : Nat) (f : Addr) (fd : FuncData) (ps : List Str) (sp : Sp) : Prop where
  len : ∀ vs H Q E, sp vs H Q E → vs.length = ps.length
  run : ∀ (A : Around) (outer : List PySem.Env) (s : Shared) (H : Hp) (args : Args) (us : List Value) (vs : List V) (Q : VK) (E : XK), Room k A → A.guards = some [] → Env0 P w K mg base A outer s H →
    BindsTo s fd args (ps.zip us) → Vals vs us → sp vs H Q E → codeAny (model P w) A (.call (.ref f) args) (CR (L2.CX P w) outer P w H s Q E) s
/-- the def that the module's name x holds -/
def FnAt (X : Cx) (x : Str) (sp : TSp) : Prop := ∃ f fd ps k, FnG X.prog X.w X.K X.mg X.base k f fd ps (lSp X.K sp) ∧ Room k X.A ∧ X.mg x = some (.ref f) ∧ PySem.W.keepIn X.K (.ref f) = true ∧ Binds X.K fd ps []

/-! ### what the text's names are -/
structure Gx where
  N : List Str
  sc : Scope
  calm : Bool
  top : Bool
  fns : List (Str × TSp)
  cons : List (Str × T)
  bts : List Str
  bfs : List (Str × String)
  exs : List (Str × Addr) := []
  exm : Value → Value → Option Bool := fun _ _ => none
  cl : Str → Bool := fun _ => false
def ConK (K : PySem.W.Frag) (t : T) (u : Value) : Prop := ∃ v, RelV v u ∧ ∀ z H S, RT K z H S t v
/-- a class of errors without __init__: made and raised -/
structure ExcOk (X : Cx) (x : Str) (C : Addr) : Prop where
  ex : ∃ (bmB : List Value) (B newId initId : String), ExcBaseFacts B newId initId bmB ∧ PySem.W.excIn X.K C bmB newId = true
  gC : X.mg x = some (.ref C)
  kC : PySem.W.keepIn X.K (.ref C) = true
  ra : Raises X (.ref C)
structure CtxOk (X : Cx) (G : Gx) : Prop where
  hN : X.N = G.N
  nd : G.N.Nodup
  sc : X.env.scope = G.sc
  calm : X.calm = G.calm
  rm : Roomy X
  fn : ∀ (k : Nat) x sp, G.fns[k]? = some (x, sp) → FnAt X x sp
  cs : ∀ (k : Nat) x t, G.cons[k]? = some (x, t) → ∃ u, X.mg x = some u ∧ ConK X.K t u
  bt : ∀ x, x ∈ G.bts → X.mg x = none
  bf : ∀ x id, (x, id) ∈ G.bfs → X.mg x = some (.builtin id)
  cel : ∀ x, (G.top || G.cl x) = true → X.fn x = true
  ex : ∀ (k : Nat) x D, G.exs[k]? = some (x, D) → ExcOk X x D
  em : ∀ a b k, G.exm a b = some k → PySem.W.exmOne X.K a b = some k
def visB (sc : Scope) (x : Str) : Bool := decide (sc.names.lookup x = some .local) || decide (sc.names.lookup x = some .cell) || decide (sc.names.lookup x = some .free)
theorem vis_of {sc : Scope} {x : Str} (h : visB sc x = true) : Vis sc x := by
  unfold visB at h
  simp only [Bool.or_eq_true, decide_eq_true_eq] at h
  rcases h with (h | h) | h
  · exact .inl h
  · exact .inr (.inl h)
  · exact .inr (.inr h)
def glB (sc : Scope) (x : Str) : Bool := decide (sc.names.lookup x = some .globalImplicit) && !(x == ("__debug__" : Str)) && !(x == ("__name__" : Str))
theorem gl_of {X : Cx} {G : Gx} (C : CtxOk X G) {x : Str} (h : glB G.sc x = true) : Gl X x ∧ (x == ("__debug__" : Str)) = false ∧ x ≠ "__name__" := by
  unfold glB at h
  simp only [Bool.and_eq_true, decide_eq_true_eq, Bool.not_eq_true'] at h
  refine ⟨?_, h.1.2, fun e => ?_⟩
  · show X.env.scope.names.lookup x = _
    rw [C.sc]; exact h.1.1
  · have := h.2; rw [e] at this; simp at this

/-! ### trees of the text -/
inductive Bf where
  | len | abs | int | tuple | list | all | any | sum | max | repr | gcd
  deriving DecidableEq
inductive Mt where
  | append | pop
  deriving DecidableEq
inductive Tg where
  | nm (i : Nat) | tup (l : Tg) | nil | cons (a b : Tg)
inductive E where
  | var (i : Nat) | int (i : Int) | bl (b : Bool) | non | str (x : Str) | con (k : Nat)
  | bin (o : Bo) (a b : E) | neg (a : E) | cmp (o : Co) (a b : E) | chain (o p : Co) (a b c : E)
  | one (a : E) | and (a b : E) | or (a b : E) | not (a : E) | ife (c a b : E)
  | tup (as : E) | lst (as : E) | frz (a : E) | nil | cons (a as : E)
  | ix (a b : E) | sl (a lo hi : E) | nop | revl (a : E)
  | call (k : Nat) (as : E) | blt (b : Bf) (as : E) | isi (a : E) (y : Ty) | isT (a : E) (ys : List Ty)
  | mth (m : Mt) (o as : E) | dget (o : E) (k : Str) | dnew | ddis (ks : List Str) (as : E)
  | iA (a : E) | iR1 (a : E) | iR2 (a b : E) | iR3 (a b c : E) | iZ (a b : E) | iE (a : E)
  | lc (own : List (Str × Nat)) (g : Tg) (it el : E) | lci (own : List (Str × Nat)) (g : Tg) (it c el : E)
  | lc2 (own : List (Str × Nat)) (g : Tg) (it : E) (own1 : List Nat) (g1 : Tg) (it1 c el : E)
def tru (S : Sto) : T → Option Bool
  | .non => some false
  | .bl b => some b
  | .int i => some (i != 0)
  | .str y => if y.length ≤ sizeLine then some ((y.length : Int) != 0) else none
  | .dct ks _ => some (!ks.isEmpty)
  | .ty _ => none
  | x => (seqOf S x).map fun ts => !ts.isEmpty
def Bf.sem : Bf → OC
  | .len => oLen | .abs => oAbs | .int => oInt1 | .tuple => oTup | .list => oList | .all => oAll false | .any => oAll true | .sum => oSum | .max => oMax | .repr => oRepr | .gcd => oGcd
def Mt.sem : Mt → OM
  | .append => oAppend | .pop => oPop
def slotsG : Tg → List Nat
  | .nm i => [i]
  | .tup l => slotsG l
  | .nil => []
  | .cons a b => slotsG a ++ slotsG b
mutual
def gT : Tg → T → Env → Sto → (Env → Prop) → Prop
  | .nm i, t, env, _, k => k (env.set i (some t))
  | .tup l, t, env, S, k => match seqOf S t with
    | some ts => gTs l ts env S k
    | none => False
  | _, _, _, _, _ => False
def gTs : Tg → List T → Env → Sto → (Env → Prop) → Prop
  | .nil, [], env, _, k => k env
  | .cons a b, t :: ts, env, S, k => gT a t env S fun env' => gTs b ts env' S k
  | _, _, _, _, _ => False
end
abbrev WI1 := Env → Sto → (List T → (Sto → Prop) → Sto → Prop) → XP → Prop
structure Sm where
  e : WE1
  t : WT1
  a : WA1
  i : WI1
def truthOf (w : WE1) : WT1 := fun env S R X => w env S (fun x S1 => match tru S1 x with | some k => R k S1 | none => False) X
def boolOf (w : WE1) : WT1 := fun env S R X => w env S (fun x S1 => match x with | .bl k => R k S1 | _ => False) X
def noE : WE1 := fun _ _ _ _ => False
def noT : WT1 := fun _ _ _ _ => False
def noA : WA1 := fun _ _ _ _ => False
def noI : WI1 := fun _ _ _ _ => False
def Sm.val (w : WE1) : Sm := ⟨w, truthOf w, noA, noI⟩
def Sm.tst (w : WE1) : Sm := ⟨w, boolOf w, noA, noI⟩
def Sm.arg (w : WA1) : Sm := ⟨noE, noT, w, noI⟩
def Sm.itr (w : WI1) : Sm := ⟨noE, noT, noA, w⟩
def wLc (own : List Nat) (g : Tg) (c : WT1) (el : WE1) (gd : Sto → Prop) (env : Env) : List T → List T → Sto → (List T → Sto → Prop) → Prop
  | [], acc, S, R => gd S ∧ R acc S
  | t :: ts, acc, S, R => gd S ∧ acc.length < sizeLine ∧ gT g t (wipeE env own) S fun env' => c env' S (fun b S1 => if b = true then el env' S1 (fun r S2 => wLc own g c el gd env ts (acc ++ [r]) S2 R) (fun _ _ => False) else wLc own g c el gd env ts acc S1 R) (fun _ _ => False)
def wLc2 (own own1 : List Nat) (g : Tg) (it1 : WI1) (g1 : Tg) (c1 : WT1) (el : WE1) (gd : Sto → Prop) (env : Env) : List T → List T → Sto → (List T → Sto → Prop) → Prop
  | [], acc, S, R => gd S ∧ R acc S
  | t :: ts, acc, S, R => gd S ∧ gT g t (wipeE env own) S fun env' => it1 env' S (fun us gd1 S2 => wLc own1 g1 c1 el gd1 env' us acc S2 fun acc' S3 => wLc2 own own1 g it1 g1 c1 el gd env ts acc' S3 R) (fun _ _ => False)
def frzT (S : Sto) (x : T) (R : RP) : Prop := match x with
  | .ref a => match S a with
    | some (.lst ts) => R (.lst ts) (rm S a)
    | some (.dct kvs) => R (.dct (kvs.map (·.1)) (kvs.map (·.2))) (rm S a)
    | _ => R x S
  | x => R x S
def gdOf (S : Sto) : T → Sto → Prop
  | .ref a => match S a with
    | some (.lst ts) => fun S' => S' a = some (.lst ts)
    | _ => fun _ => False
  | _ => fun _ => True
def zipK (S : Sto) (x y : T) (R : List T → (Sto → Prop) → Sto → Prop) : Prop := match x, y with
  | .tup ts, .tup us => R ((ts.zip us).map fun p => .tup [p.1, p.2]) (fun _ => True) S
  | x, y => match seqOf S x, seqOf S y with
    | some ts, some us => R ((ts.zip us).map fun p => .tup [p.1, p.2]) (fun S' => gdOf S x S' ∧ gdOf S y S') S
    | _, _ => False
def dput (kvs : List (Key × T)) (k : Key) (v : T) : List (Key × T) :=
  if (kvs.any fun kv => decide (kv.1 = k)) = true then kvs.map (fun kv => if kv.1 = k then (kv.1, v) else kv) else kvs ++ [(k, v)]
def dputs : List (Key × T) → List Str → List T → List (Key × T)
  | kvs, k :: ks, t :: ts => dputs (dput kvs (.inr k) t) ks ts
  | kvs, _, _ => kvs
def keysAre : List (Option Expr) → List Str → Bool
  | [], [] => true
  | some (.Constant (.str y) _ _) :: r, k :: ks => decide (y = k) && keysAre r ks
  | _, _ => false
def dlook (kvs : List (Key × T)) (k : Key) : Option T := (kvs.find? fun kv => decide (kv.1 = k)).map (·.2)
/-- a slice's part: nothing, or an int -/
def slP : List T → Option (Option Int)
  | [] => some none
  | [.int i] => some (some i)
  | _ => none
def sem (G : Gx) : E → Sm
  | .var i => .val fun env S R _ => match env[i]? with
    | some (some t) => R t S
    | _ => False
  | .int i => .val fun _ S R _ => R (.int i) S
  | .bl b => .val fun _ S R _ => R (.bl b) S
  | .non => .val fun _ S R _ => R .non S
  | .str x => .val fun _ S R _ => R (.str x) S
  | .con k => .val fun _ S R _ => match G.cons[k]? with
    | some (_, t) => R t S
    | none => False
  | .bin o a b => .val fun env S R X => (sem G a).e env S (fun x S1 => (sem G b).e env S1 (fun y S2 => o.sem x y S2 R) X) X
  | .neg a => .val fun env S R X => (sem G a).e env S (fun x S1 => oNeg x S1 R) X
  | .cmp o a b => .tst fun env S R X => (sem G a).e env S (fun x S1 => (sem G b).e env S1 (fun y S2 => o.sem x y S2 R) X) X
  | .chain o p a b c => .tst fun env S R X => (sem G a).e env S (fun x S1 => (sem G b).e env S1 (fun y S2 => o.sem x y S2 (fun r S3 => match r with
    | .bl true => (sem G c).e env S3 (fun u S4 => p.sem y u S4 R) X
    | .bl false => R (.bl false) S3
    | _ => False)) X) X
  | .one a => ⟨(sem G a).e, (sem G a).t, noA, noI⟩
  | .and a b => ⟨fun env S R X => (sem G a).e env S (fun x S1 => match x with
      | .bl true => (sem G b).e env S1 R X
      | .bl false => R (.bl false) S1
      | _ => False) X, fun env S R X => (sem G a).t env S (fun c S1 => if c = true then (sem G b).t env S1 R X else R false S1) X, noA, noI⟩
  | .or a b => ⟨fun env S R X => (sem G a).e env S (fun x S1 => match x with
      | .bl false => (sem G b).e env S1 R X
      | .bl true => R (.bl true) S1
      | _ => False) X, fun env S R X => (sem G a).t env S (fun c S1 => if c = true then R true S1 else (sem G b).t env S1 R X) X, noA, noI⟩
  | .not a => ⟨fun env S R X => (sem G a).e env S (fun x S1 => match x with
      | .bl c => R (.bl (!c)) S1
      | _ => False) X, fun env S R X => (sem G a).t env S (fun c S1 => R (!c) S1) X, noA, noI⟩
  | .ife c a b => ⟨fun env S R X => (sem G c).t env S (fun k S1 => if k = true then (sem G a).e env S1 R X else (sem G b).e env S1 R X) X, noT, noA, noI⟩
  | .tup as => .val fun env S R X => (sem G as).a env S (fun ts S1 => ts.length ≤ sizeLine ∧ R (.tup ts) S1) X
  | .lst as => .val fun env S R X => (sem G as).a env S (fun ts S1 => ts.length ≤ sizeLine ∧ ∀ p, S1 p = none → R (.ref p) (up S1 p (.lst ts))) X
  | .frz a => ⟨fun env S R X => (sem G a).e env S (fun x S1 => frzT S1 x R) X, noT, noA, noI⟩
  | .nil => .arg fun _ S R _ => R [] S
  | .cons a as => .arg fun env S R X => (sem G a).e env S (fun t S1 => (sem G as).a env S1 (fun ts S2 => R (t :: ts) S2) X) X
  | .ix a b => .val fun env S R X => (sem G a).e env S (fun x S1 => (sem G b).e env S1 (fun y S2 => oIx x y S2 R) X) X
  | .nop => ⟨noE, fun _ S R _ => R true S, fun _ S R _ => R [] S, noI⟩
  | .sl a lo hi => .val fun env S R X => (sem G a).e env S (fun x S1 => (sem G lo).a env S1 (fun l S2 => match slP l with
    | some i => (sem G hi).a env S2 (fun h S3 => match slP h with
      | some j => oSl x i j S3 R
      | none => False) X
    | none => False) X) X
  | .revl a => .val fun env S R X => (sem G a).e env S (fun x S1 => match x with
    | .tup ts => R (.tup ts.reverse) S1
    | x => match lstOf S1 x with
      | some ts => ∀ p, S1 p = none → R (.ref p) (up S1 p (.lst ts.reverse))
      | none => False) X
  | .call k as => .val fun env S R X => match G.fns[k]? with
    | some (_, sp) => (sem G as).a env S (fun ts S1 => sp ts S1 R X) X
    | none => False
  | .blt b as => .val fun env S R X => (sem G as).a env S (fun ts S1 => b.sem ts S1 R) X
  | .isi a y => .val fun env S R X => (sem G a).e env S (fun x S1 => oIsi y x S1 R) X
  | .isT a ys => .val fun env S R X => (sem G a).e env S (fun x S1 => oIsiT ys x S1 R) X
  | .mth m o as => .val fun env S R X => (sem G o).e env S (fun x S1 => isL S1 x ∧ (sem G as).a env S1 (fun ts S2 => m.sem x ts S2 R) X) X
  | .dget o k => .val fun env S R X => (sem G o).e env S (fun x S1 => match x with
    | .ref a => match S1 a with
      | some (.dct kvs) => match dlook kvs (.inr k) with
        | some t => R t S1
        | none => False
      | _ => False
    | _ => False) X
  | .dnew => .val fun _ S R _ => ∀ p, S p = none → R (.ref p) (up S p (.dct []))
  | .ddis ks as => .val fun env S R X => ∀ p, S p = none → (sem G as).a env (up S p (.dct [])) (fun ts S2 => ts.length = ks.length ∧ S2 p = some (.dct []) ∧ R (.ref p) (up S2 p (.dct (dputs [] ks ts)))) X
  | .iA a => .itr fun env S R X => (sem G a).e env S (fun x S1 => match seqOf S1 x with
    | some ts => R ts (gdOf S1 x) S1
    | none => False) X
  | .iR1 a => .itr fun env S R X => (sem G a).e env S (fun x S1 => match x with
    | .int j => (-(2 ^ 62) ≤ j ∧ j < 2 ^ 62) ∧ R ((List.range j.toNat).map fun i => .int (i : Nat)) (fun _ => True) S1
    | _ => False) X
  | .iR2 a b => .itr fun env S R X => (sem G a).e env S (fun x S1 => (sem G b).e env S1 (fun y S2 => match x, y with
    | .int i, .int j => (-(2 ^ 62) ≤ i ∧ i < 2 ^ 62 ∧ -(2 ^ 62) ≤ j ∧ j < 2 ^ 62) ∧ R ((List.range (j - i).toNat).map fun n => .int (i + (n : Nat))) (fun _ => True) S2
    | _, _ => False) X) X
  | .iR3 a b c => .itr fun env S R X => (sem G a).e env S (fun x S1 => (sem G b).e env S1 (fun y S2 => (sem G c).e env S2 (fun u S3 => match x, y, u with
    | .int i, .int j, .int k => ∃ n, RgC i j k n ∧ R ((List.range n).map fun m => .int (i + (m : Nat) * k)) (fun _ => True) S3
    | _, _, _ => False) X) X) X
  | .iZ a b => .itr fun env S R X => (sem G a).e env S (fun x S1 => (sem G b).e env S1 (fun y S2 =>
    zipK S2 x y R) X) X
  | .iE a => .itr fun env S R X => (sem G a).e env S (fun x S1 => match seqOf S1 x with
    | some ts => R (ts.mapIdx fun i t => .tup [.int (i : Nat), t]) (gdOf S1 x) S1
    | none => False) X
  | .lc own g it el => .val fun env S R X => (sem G it).i env S (fun ts gd S1 => wLc (own.map (·.2)) g (fun _ S R _ => R true S) (sem G el).e gd env ts [] S1 fun acc S2 => ∀ p, S2 p = none → R (.ref p) (up S2 p (.lst acc))) X
  | .lci own g it c el => .val fun env S R X => (sem G it).i env S (fun ts gd S1 => wLc (own.map (·.2)) g (sem G c).t (sem G el).e gd env ts [] S1 fun acc S2 => ∀ p, S2 p = none → R (.ref p) (up S2 p (.lst acc))) X
  | .lc2 own g it own1 g1 it1 c el => .val fun env S R X => (sem G it).i env S (fun ts gd S1 => wLc2 (own.map (·.2)) own1 g (sem G it1).i g1 (sem G c).t (sem G el).e gd env ts [] S1 fun acc S2 => ∀ p, S2 p = none → R (.ref p) (up S2 p (.lst acc))) X

/-! ### the text's expressions against the trees -/
def notStar : Expr → Bool
  | .Starred _ _ => false
  | _ => true
def plainRecv : Expr → Bool
  | .Call _ _ _ _ => false
  | _ => true
def Bf.name : Bf → Str
  | .len => "len" | .abs => "abs" | .int => "int" | .tuple => "tuple" | .list => "list" | .all => "all" | .any => "any" | .sum => "sum" | .max => "max" | .repr => "repr" | .gcd => "gcd"
def Bf.calm : Bf → Bool
  | .all => true | .any => true | .sum => true | .max => true | _ => false
def Mt.name : Mt → Str
  | .append => "append" | .pop => "pop"
def btB (G : Gx) (x : Str) : Bool := glB G.sc x && decide (x ∈ G.bts)
mutual
def chkG (G : Gx) : Tg → Expr → Bool
  | .nm i, .Name x _ => decide (G.N[i]? = some x) && (decide (G.sc.names.lookup x = some .local) || ((G.top || G.cl x) && decide (G.sc.names.lookup x = some .cell)))
  | .tup l, .Tuple es _ _ => G.calm && chkGs G l es
  | _, _ => false
def chkGs (G : Gx) : Tg → List Expr → Bool
  | .nil, [] => true
  | .cons a b, e :: es => notStar e && chkG G a e && chkGs G b es
  | _, _ => false
end
structure Ck where
  e : Expr → Bool
  l : BoolOp → List Expr → Bool
  a : List Expr → Bool
  o : Option Expr → Bool
  i : Expr → Bool
def nE : Expr → Bool := fun _ => false
def nL : BoolOp → List Expr → Bool := fun _ _ => false
def nA : List Expr → Bool := fun _ => false
def nO : Option Expr → Bool := fun _ => false
def isTupE : Expr → Bool
  | .Tuple _ _ _ => true
  | _ => false
def subG (G : Gx) (scope : Scope) : Gx := { G with sc := relS scope G.sc, top := false, cl := fun x => scope.names.lookup x == some .cell }
def isWhole : Expr → Bool
  | .Tuple _ _ _ => true
  | .List _ _ => true
  | _ => true
def needTup : E → Bool
  | .iZ _ _ => true
  | .iE _ => true
  | _ => false
def notSet : Expr → Bool
  | .Set _ _ _ => false
  | _ => true
def isSlice : Expr → Bool
  | .Slice _ _ _ _ => true
  | _ => false
def isNop : E → Bool
  | .nop => true
  | _ => false
def tyNames (G : Gx) : List Expr → List Ty → Bool
  | [], [] => true
  | .Name c _ :: es, y :: ys => decide (c = Str.ofString y.name) && decide (y ≠ .none) && btB G c && tyNames G es ys
  | _, _ => false
def chk : E → Gx → Ck
  | .var i, G => ⟨fun | .Name x _ => decide (G.N[i]? = some x) && visB G.sc x && !(x == ("__debug__" : Str)) && !(x == ("__classdict__" : Str)) | _ => false, nL, nA, nO, nE⟩
  | .int i, _ => ⟨fun | .Constant (.int j) _ _ => decide (i = j) | _ => false, nL, nA, nO, nE⟩
  | .bl b, _ => ⟨fun | .Constant (.bool c) _ _ => decide (b = c) | _ => false, nL, nA, nO, nE⟩
  | .non, _ => ⟨fun | .Constant .none _ _ => true | _ => false, nL, nA, nO, nE⟩
  | .str x, _ => ⟨fun | .Constant (.str y) _ _ => decide (x = y) | _ => false, nL, nA, nO, nE⟩
  | .con k, G => ⟨fun | .Name x _ => (match G.cons[k]? with | some (y, _) => decide (x = y) | none => false) && glB G.sc x | _ => false, nL, nA, nO, nE⟩
  | .bin o a b, G => ⟨fun | .BinOp l op r _ => decide (op = o.op) && (chk a G).e l && (chk b G).e r | _ => false, nL, nA, nO, nE⟩
  | .neg a, G => ⟨fun | .UnaryOp .USub l _ => (chk a G).e l | _ => false, nL, nA, nO, nE⟩
  | .cmp o a b, G => ⟨fun | .Compare l [op] [r] _ => decide (op = o.op) && !behindInMarks op r && (chk a G).e l && (chk b G).e r | _ => false, nL, nA, nO, nE⟩
  | .chain o p a b c, G => ⟨fun | .Compare l [op, op2] [r, u] _ => decide (op = o.op) && decide (op2 = p.op) && !lastMarks [op, op2] [r, u] && (chk a G).e l && (chk b G).e r && (chk c G).e u | _ => false, nL, nA, nO, nE⟩
  | .one a, G => ⟨nE, fun _ es => match es with | [x] => (chk a G).e x | _ => false, nA, nO, nE⟩
  | .and a b, G => ⟨fun | .BoolOp .And (x :: y :: r) _ => (chk a G).e x && (chk b G).l .And (y :: r) | _ => false, fun op es => match op, es with | .And, x :: y :: r => (chk a G).e x && (chk b G).l .And (y :: r) | _, _ => false, nA, nO, nE⟩
  | .or a b, G => ⟨fun | .BoolOp .Or (x :: y :: r) _ => (chk a G).e x && (chk b G).l .Or (y :: r) | _ => false, fun op es => match op, es with | .Or, x :: y :: r => (chk a G).e x && (chk b G).l .Or (y :: r) | _, _ => false, nA, nO, nE⟩
  | .not a, G => ⟨fun | .UnaryOp .Not x _ => (chk a G).e x | _ => false, nL, nA, nO, nE⟩
  | .ife c a b, G => ⟨fun | .IfExp t x y _ => (chk c G).e t && (chk a G).e x && (chk b G).e y | _ => false, nL, nA, nO, nE⟩
  | .tup as, G => ⟨fun | .Tuple es _ _ => (chk as G).a es | _ => false, nL, nA, nO, nE⟩
  | .lst as, G => ⟨fun | .List es _ => (chk as G).a es | _ => false, nL, nA, nO, nE⟩
  | .frz a, G => ⟨fun x => (chk a G).e x, nL, nA, nO, nE⟩
  | .nil, _ => ⟨nE, nL, fun | [] => true | _ => false, nO, nE⟩
  | .cons a as, G => ⟨nE, nL, fun | x :: r => notStar x && (chk a G).e x && (chk as G).a r | _ => false, fun | some x => (match as with | .nil => true | _ => false) && (chk a G).e x | none => false, nE⟩
  | .nop, _ => ⟨nE, nL, nA, fun | none => true | _ => false, nE⟩
  | .ix a b, G => ⟨fun | .Subscript x y _ => !isSlice y && (chk a G).e x && (chk b G).e y | _ => false, nL, nA, nO, nE⟩
  | .sl a lo hi, G => ⟨fun | .Subscript x (.Slice l h none _) _ => (chk a G).e x && (chk lo G).o l && (chk hi G).o h | _ => false, nL, nA, nO, nE⟩
  | .revl a, G => ⟨fun | .Subscript x (.Slice none none (some (.UnaryOp .USub (.Constant (.int 1) _ _) _)) _) _ => (chk a G).e x | _ => false, nL, nA, nO, nE⟩
  | .call k as, G => ⟨fun | .Call (.Name x _) es [] _ => (match G.fns[k]? with | some (y, _) => decide (x = y) | none => false) && glB G.sc x && (chk as G).a es | _ => false, nL, nA, nO, nE⟩
  | .blt b as, G => ⟨fun | .Call (.Name x _) (e :: es) [] _ => decide (x = b.name) && (match b with | .gcd => glB G.sc x && decide ((x, "math.gcd") ∈ G.bfs) | _ => btB G x) && (!b.calm || G.calm) && (chk as G).a (e :: es) | _ => false, nL, nA, nO, nE⟩
  | .isi a y, G => ⟨fun | .Call (.Name x _) [e, .Name c _] [] _ => decide (x = ("isinstance" : Str)) && btB G x && decide (c = Str.ofString y.name) && decide (y ≠ .none) && btB G c && notStar e && (chk a G).e e | _ => false, nL, nA, nO, nE⟩
  | .isT a ys, G => ⟨fun | .Call (.Name x _) [e, .Tuple es _ _] [] _ => decide (x = ("isinstance" : Str)) && btB G x && tyNames G es ys && decide (ys.length ≤ 9) && notStar e && (chk a G).e e | _ => false, nL, nA, nO, nE⟩
  | .mth m o as, G => ⟨fun | .Call (.Attribute x f apos) es [] cpos => decide (f = m.name) && plainRecv x && (apos.endLine == cpos.line) && decide (es.length < 9) && (chk o G).e x && (chk as G).a es | _ => false, nL, nA, nO, nE⟩
  | .dget o k, G => ⟨fun | .Subscript x (.Constant (.str y) _ _) _ => decide (k = y) && (chk o G).e x | _ => false, nL, nA, nO, nE⟩
  | .dnew, _ => ⟨fun | .Dict [] [] _ => true | _ => false, nL, nA, nO, nE⟩
  | .ddis ks as, G => ⟨fun | .Dict keys vs _ => keysAre keys ks && decide (ks ≠ []) && decide (ks.length ≤ 15) && decide (keys.length = vs.length) && (chk as G).a vs | _ => false, nL, nA, nO, nE⟩
  | .iA a, G => ⟨nE, nL, nA, nO, fun x => notSet x && (chk a G).e x⟩
  | .iR1 a, G => ⟨nE, nL, nA, nO, fun | .Call (.Name x _) [e] [] _ => decide (x = ("range" : Str)) && btB G x && notStar e && (chk a G).e e | _ => false⟩
  | .iR2 a b, G => ⟨nE, nL, nA, nO, fun | .Call (.Name x _) [e, u] [] _ => decide (x = ("range" : Str)) && btB G x && notStar e && notStar u && (chk a G).e e && (chk b G).e u | _ => false⟩
  | .iR3 a b c, G => ⟨nE, nL, nA, nO, fun | .Call (.Name x _) [e, u, v] [] _ => decide (x = ("range" : Str)) && btB G x && notStar e && notStar u && notStar v && (chk a G).e e && (chk b G).e u && (chk c G).e v | _ => false⟩
  | .iZ a b, G => ⟨nE, nL, nA, nO, fun | .Call (.Name x _) [e, u] [] _ => decide (x = ("zip" : Str)) && btB G x && notStar e && notStar u && (chk a G).e e && (chk b G).e u | _ => false⟩
  | .iE a, G => ⟨nE, nL, nA, nO, fun | .Call (.Name x _) [e] [] _ => decide (x = ("enumerate" : Str)) && btB G x && notStar e && (chk a G).e e | _ => false⟩
  | .lc own g it el, G => ⟨fun | .ListComp elt [⟨tg, iter, [], 0⟩] scope _ => G.calm && blkC G.N G.sc scope own && (!needTup it || isTupE tg) && (chk it G).i iter && notSet iter && ((slotsG g).all fun j => (own.map (·.2)).contains j) && chkG (subG G scope) g tg && (chk el (subG G scope)).e elt | _ => false, nL, nA, nO, nE⟩
  | .lci own g it c el, G => ⟨fun | .ListComp elt [⟨tg, iter, [cd], 0⟩] scope _ => G.calm && blkC G.N G.sc scope own && (!needTup it || isTupE tg) && (chk it G).i iter && notSet iter && ((slotsG g).all fun j => (own.map (·.2)).contains j) && chkG (subG G scope) g tg && (chk c (subG G scope)).e cd && (chk el (subG G scope)).e elt | _ => false, nL, nA, nO, nE⟩
  | .lc2 own g it own1 g1 it1 c el, G => ⟨fun | .ListComp elt [⟨tg, iter, [], 0⟩, ⟨tg1, iter1, ifs1, 0⟩] scope _ => G.calm && blkC G.N G.sc scope own && (!needTup it || isTupE tg) && (!needTup it1 || isTupE tg1) && (chk it G).i iter && notSet iter && notSet iter1 && ((slotsG g).all fun j => (own.map (·.2)).contains j) && ((slotsG g1).all fun j => own1.contains j) && (own1.all fun j => (own.map (·.2)).contains j) && chkG (subG G scope) g tg && chkG (subG G scope) g1 tg1 && (chk it1 (subG G scope)).i iter1 && (match ifs1 with | [] => isNop c | [cd] => (chk c (subG G scope)).e cd | _ => false) && (chk el (subG G scope)).e elt | _ => false, nL, nA, nO, nE⟩
end TP

set_option maxHeartbeats 2000000
namespace TP
open PySem PySem.Spec PyProof.Rows L2

/-! ### lists and tuples walked alike: enumerate and zip of either -/
def SqB : Bool → PySem.W.Frag → Hp → Addr → List V → Prop
  | true, K, H, a, xs => SqT K H a xs
  | false, K, H, a, xs => SqL K H a xs
def HsB : Bool → Heap → Addr → Array Value → Prop
  | true, h, a, i => h.IsTuple a i
  | false, h, a, i => h.IsList a i
def ItB : Bool → Heap → Addr → Addr → Nat → Prop
  | true, h, it, a, i => h.IsTupleIter it a i
  | false, h, it, a, i => h.IsListIter it a i
theorem invB {X : Cx} {pins : List (Addr × Obj)} {σ : L2.St} {H : Hp} {s : Shared} {k : Bool} {a : Addr} {xs : List V} (I : Inv X pins σ H s) (h : SqB k X.K H a xs) : ∃ its : List Value, Vals xs its ∧ HsB k s.heap a its.toArray := by
  cases k
  · obtain ⟨its, r, p, _⟩ := I.list h; exact ⟨its, r, p.isList⟩
  · obtain ⟨its, r, p, _⟩ := I.tuple h; exact ⟨its, r, p⟩
theorem injB {X : Cx} {pins : List (Addr × Obj)} {σ : L2.St} {H : Hp} {s : Shared} {k : Bool} {a : Addr} {xs ys : List V} (I : Inv X pins σ H s) (h : SqB k X.K H a xs) (h' : SqB k X.K H a ys) : xs = ys := by
  cases k
  · exact I.list_inj h h'
  · exact I.tuple_inj h h'
theorem itB_obj {k : Bool} {h : Heap} {it a : Addr} {i : Nat} (x : ItB k h it a i) : ∃ o, h.get? it = some o ∧ ∀ v : Array Value, ∀ n, o.data ≠ .seq v n := by
  cases k <;> obtain ⟨o, ho, _, hd⟩ := x <;> exact ⟨o, ho, fun v n q => by rw [hd] at q; cases q⟩
theorem itB_at {k : Bool} {h h' : Heap} {it a : Addr} {i : Nat} (x : ItB k h it a i) (e : ∀ o, h.get? it = some o → h'.get? it = some o) : ItB k h' it a i := by
  cases k
  · exact Heap.IsListIter.at x e
  · exact Heap.IsTupleIter.at x e
theorem hsB_obj {k : Bool} {h : Heap} {a : Addr} {v : Array Value} (x : HsB k h a v) : ∃ o, h.get? a = some o ∧ ∃ n, o.data = .seq v n := by
  cases k
  · obtain ⟨o, ho, _, n, hd⟩ := x; exact ⟨o, ho, n, hd⟩
  · obtain ⟨o, ho, _, n, hd⟩ := x; exact ⟨o, ho, n, hd⟩
theorem neB {k k' : Bool} {h : Heap} {it a b : Addr} {i : Nat} {v : Array Value} (x : ItB k h it a i) (y : HsB k' h b v) : b ≠ it := fun e => by
  obtain ⟨o, ho, hd⟩ := itB_obj x
  obtain ⟨o', ho', n, hd'⟩ := hsB_obj y
  rw [e, ho] at ho'
  cases ho'
  exact hd _ _ hd'
theorem drawsB {prog : Program} {w : World} {A : Around} (hh : A.handled = none) (k : Bool) (it a : Addr) (hne : a ≠ it) (items : Array Value) :
    Draws prog w A it [it, a] items.size (fun i v => items[i]? = some v) (fun i h => ItB k h it a i ∧ HsB k h a items) := by
  cases k
  · exact Draws.list hh it a hne items
  · exact Draws.tuple hh it a hne items
theorem beginsB (k : Bool) (a : Addr) (items : Array Value) : ∃ o, (∀ h it, Heap.get? h it = some o → ItB k h it a 0) ∧ Begins (.ref a) o fun h => HsB k h a items := by
  cases k
  · exact ⟨_, fun h it e => ⟨_, e, rfl, rfl⟩, begins_list a items⟩
  · exact ⟨_, fun h it e => ⟨_, e, rfl, rfl⟩, begins_tuple a items⟩

/-! ### enumerate of a tuple -/
def IteT (K : PySem.W.Frag) (a : Addr) : It :=
  ⟨fun i H => ∃ (xs : List V) (x : V), SqT K H a xs ∧ xs[i]? = some x, fun i H v H' => ∃ T x, v = .ref T ∧ H T = none ∧ H' = upd H T (.tup [.int (i : Nat), x]) ∧ ∀ xs, SqT K H a xs → xs[i]? = some x, fun i H => ∃ xs : List V, SqT K H a xs ∧ xs.length = i⟩
theorem turn_enT {P : Program} {w : World} {K : PySem.W.Frag} {elts : List Expr} {kk : Nat} {tpos : Pos} (a e it : Addr) :
    Turn P w K (.Tuple elts kk tpos) (IteT K a) [e, it] e (fun i h => (∃ old, IsEnum h e it ((i : Nat) : Int) old) ∧ h.IsTupleIter it a i ∧ e ≠ it) where
  mem := by simp
  obj := fun i h st b hb => by
    obtain ⟨⟨old, he⟩, ⟨o, ho, hc, hd⟩, _⟩ := st
    have e' : b = e ∨ b = it := by simpa using hb
    rcases e' with z | z
    · rw [z]; exact ⟨_, he, fun v q => nomatch q⟩
    · rw [z]; exact ⟨o, ho, fun v q => by rw [hd] at q; cases q⟩
  keep := fun i h h' st k => let ⟨⟨old, he⟩, hi, hne⟩ := st; ⟨⟨old, k e (by simp) _ he⟩, hi.at fun o q => k it (by simp) o q, hne⟩
  item := by
    intro X hP hw hK hc i pins s σ H E I hf st hg
    subst hP hw hK
    obtain ⟨⟨old, he⟩, hit, hne⟩ := st
    obtain ⟨xs, x, hq, hx⟩ := hg
    obtain ⟨its, rv, p⟩ := invB (k := true) I hq
    obtain ⟨u, hu, ru⟩ := rv.get hx
    have hel : e < s.heap.objs.size := Heap.lt_size he
    have hil : it < s.heap.objs.size := by obtain ⟨_, q, _⟩ := hit; exact Heap.lt_size q
    have ai := neB (k := true) (k' := true) hit p
    have ea : e ≠ a := fun z => by
      obtain ⟨o, ho, n, hd⟩ := hsB_obj p
      rw [← z, show s.heap.get? e = _ from he] at ho
      cases ho
      cases hd
    have hh : X.A.in1.handled = none := I.ok.hd hc
    have hi : i < its.toArray.size := by
      have := (List.getElem?_eq_some_iff.mp hu).1
      simpa using this
    refine wpAny_pyNext_enum_itemD (drawsB hh true it a ai its.toArray) he ⟨hit, p⟩ hi hne (by simp [hne, ea]) fun y h' tk hy ho hit' hT hsz hk => ?_
    have ey : y = u := by
      have : its[i]? = some y := by simpa using hy
      rw [hu] at this
      exact (Option.some.inj this).symm
    subst ey
    refine ⟨_, rfl, wpAny_letOwnedTupleGo_enum (s := { s with heap := h', toks := tk + 1 }) ho fun h'' he' sb => ?_⟩
    have hT2 : h''.get? s.heap.objs.size = some { cls := .type "tuple", data := .seq #[.int i tk, y] } := (sb.2 _ (Nat.ne_of_gt hel)).trans hT
    have new : ObjOk X.prog X.w (upd H s.heap.objs.size (.tup [.int (i : Nat), x])) h'' s.heap.objs.size (.tup [.int (i : Nat), x]) :=
      ⟨by show 2 ≤ sizeLine; decide, [.int i tk, y], .cons ⟨_, rfl⟩ (.cons ru .nil), ⟨_, hT2, rfl, _, rfl⟩⟩
    have I1 : Inv X pins σ (upd H s.heap.objs.size (.tup [.int (i : Nat), x])) { s with heap := h'', toks := tk + 1 } :=
      I.turnedNew (ch := [e, it]) (fun b ob hb q => (sb.2 b (fun z => hb (by simp [z]))).trans (hk b ob (fun z => hb (by simp [z])) (fun z => hb (by simp [z])) q)) hf (Nat.le_refl _) new
    refine ⟨.ref s.heap.objs.size, _, I1, rfl, ⟨_, x, rfl, I.hok.fresh (Nat.le_refl _), rfl, fun ys hy => by rw [I.tuple_inj hy hq]; exact hx⟩, ⟨⟨y, ?_⟩, Heap.IsTupleIter.at hit'.1 fun o q => (sb.2 it (Ne.symm hne)).trans q, hne⟩, fun b hb => ?_⟩
    · have e1 : ((i + 1 : Nat) : Int) = (i : Int) + 1 := by omega
      rw [e1]; exact he'
    · have hb' : b < s.heap.objs.size := by
        have e' : b = e ∨ b = it := by simpa using hb
        rcases e' with z | z
        · rw [z]; exact hel
        · rw [z]; exact hil
      rw [upd_ne (Nat.ne_of_lt hb')]
      exact (hf b hb).1
  done := by
    intro X hP hw hK hc i pins s σ H E I hf st hg
    subst hP hw hK
    obtain ⟨⟨old, he⟩, hit, hne⟩ := st
    obtain ⟨xs, hq, hx⟩ := hg
    obtain ⟨its, rv, p⟩ := invB (k := true) I hq
    obtain ⟨f0, f1, f2, f3, f4, f5⟩ := hf it (by simp)
    have hl := rv.length
    have ei : i = its.toArray.size := by simp; omega
    have hh : X.A.in1.handled = none := I.ok.hd hc
    exact wpAny_pyNext_enum_endD (drawsB hh true it a (neB (k := true) (k' := true) hit p) its.toArray) he ⟨by rw [← ei]; exact hit, p⟩ fun h' eb => ⟨rfl, I.turned (t' := s.toks) (fun b o hb q => eb b o hb q) f0 f1 f3 f4 f5⟩
  self := fun A i s Q E st h => let ⟨⟨_, he⟩, _⟩ := st; wpAny_pyIter_enum he h
theorem meets_enum1 {v : Value} {o : Obj} {H : Heap → Prop} (B : Begins v o H) :
    Meets (Builtin.«enumerate.__new__» ⟨[.type "enumerate", v], []⟩) (fun _ R s => H s.heap ∧
      R (.ok (.ret (.ref (s.heap.push o).objs.size))) { s with heap := (s.heap.push o).push { cls := .type "enumerate", data := .fields #[.none, .bool false, .ref s.heap.objs.size, rawInt 0, .none, .none] } }) :=
  .of_wp fun prog w A R s h => by
    obtain ⟨hp, g, d, tk, os⟩ := s; obtain ⟨h1, h⟩ := h
    have hsub := sub_enumerate
    have q1 : ∀ {A' : Around} {E : Value → Shared → Prop} {Q : Value → Shared → Prop}, Q (.ref hp.objs.size) ⟨hp.push o, g, d, tk, os⟩ → wpAny (model prog w) A' (pyIter v) Q E ⟨hp, g, d, tk, os⟩ :=
      fun q => B.iter prog w _ _ ⟨hp, g, d, tk, os⟩ _ h1 q
    wp_walk using q1
    refine wpAny_stack_any fun st => wpAny_pure ?_
    split
    · rename_i c _ _ _ _ _
      cases (c == Value.type "enumerate")
      · wp_walk using q1
        exact ⟨_, rfl, h⟩
      · wp_walk using q1
        exact ⟨_, rfl, h⟩
    · wp_walk using q1
      exact ⟨_, rfl, h⟩
theorem enum1_begins {prog : Program} {w : World} {A : Around} {E : Value → Shared → Prop} {s : Shared} {v : Value} {o : Obj} {H : Heap → Prop} {Q : Value → Shared → Prop} (B : Begins v o H) (h1 : H s.heap)
    (h : ∀ h', IsEnum h' (s.heap.objs.size + 1) s.heap.objs.size 0 .none → h'.get? s.heap.objs.size = some o → h'.objs.size = s.heap.objs.size + 2 →
      (∀ b o, s.heap.get? b = some o → h'.get? b = some o) → Q (.ref (s.heap.objs.size + 1)) { s with heap := h' }) :
    wpAny (model prog w) A (call (.type "enumerate") [v]) Q E s := by
  refine callType_new F.called_enumerate (by decide) (F.typeCall_enumerate_1 _) (F.newCall_enumerate_1 _) (fun obj => F.args_object_init_2 obj _) F.entry_enumerate_new
    (meets_enum1 B) ⟨h1, ?_⟩
  have hz : (s.heap.push o).objs.size = s.heap.objs.size + 1 := Heap.size_push ..
  show _ ∧ _
  rw [hz]
  have he : IsEnum ((s.heap.push o).push { cls := .type "enumerate", data := .fields #[.none, .bool false, .ref s.heap.objs.size, rawInt 0, .none, .none] }) (s.heap.objs.size + 1) s.heap.objs.size 0 .none := by
    have := Heap.get?_push_size (s.heap.push o) (o := { cls := .type "enumerate", data := .fields #[.none, .bool false, .ref s.heap.objs.size, rawInt 0, .none, .none] }) rfl
    rw [hz] at this; exact this
  exact ⟨⟨_, he, rfl⟩, h _ he (Heap.get?_push_of_some _ (Heap.get?_push_size _ B.free)) (by rw [Heap.size_push, hz]) fun b o x => Heap.get?_push_of_some _ (Heap.get?_push_of_some _ x)⟩
def iEnumA (K : PySem.W.Frag) (ta : TA) : TI := fun σ H R => ta σ H fun vs H1 => ∃ a xs, vs = [.ref a] ∧ ((SqL K H1 a xs ∧ R (Ite K a) H1) ∨ (SqT K H1 a xs ∧ R (IteT K a) H1))
theorem pi_enumA {X : Cx} {e : Expr} {ta : TA} {p pos tpos : Pos} {elts : List Expr} {kk : Nat} (hg : Gl X "enumerate") (hm : X.mg "enumerate" = none) (ha : PA X [e] ta) (hs : starEach [e] X.env = [(false, eval e X.env)] := by rfl) :
    PI X (.Tuple elts kk tpos) (.Call (.Name "enumerate" p) [e] [] pos) (iEnumA X.K ta) := by
  refine ⟨fun pins s σ H R I h => ?_⟩
  refine Call_ (ld_blt I hg hm boot_enumerate (PyProof.Rows.callWith_type1 (thn (ha.run pos pins s σ H _ I h) fun us s1 ⟨vs, H1, I1, r1, q1⟩ => ?_) hs rfl))
  obtain ⟨a, xs, ex, q1⟩ := q1
  subst ex
  cases r1 with
  | cons r rr =>
    cases rr
    cases r
    have fresh : ∀ b, b ∈ [s1.heap.objs.size + 1, s1.heap.objs.size] → FpOk X pins H1 b := fun b hb => by
      have e' : b = s1.heap.objs.size + 1 ∨ b = s1.heap.objs.size := by simpa using hb
      have hle : s1.heap.objs.size ≤ b := by
        rcases e' with z | z
        · rw [z]; exact Nat.le_add_right _ _
        · rw [z]; exact Nat.le_refl _
      exact I1.fpOk hle (I1.hok.fresh hle)
    rcases q1 with ⟨hq, q⟩ | ⟨hq, q⟩
    · obtain ⟨its, rv, p', hz⟩ := I1.list hq
      refine call_enumerate_list p'.isList fun h' he hit hsz hk => wpAny_pyIter_enum he ?_
      have I2 : Inv X pins σ H1 { s1 with heap := h' } := I1.kept (t' := s1.toks) hk
      exact ⟨s1.heap.objs.size + 1, [s1.heap.objs.size + 1, s1.heap.objs.size], _, _, H1, rfl, I2, turn_enum a (s1.heap.objs.size + 1) s1.heap.objs.size, ⟨⟨.none, he⟩, hit, Nat.succ_ne_self _⟩, fresh, q⟩
    · obtain ⟨its, rv, p'⟩ := invB (k := true) I1 hq
      refine enum1_begins (begins_tuple a its.toArray) p' fun h' he hit hsz hk => wpAny_pyIter_enum he ?_
      have I2 : Inv X pins σ H1 { s1 with heap := h' } := I1.kept (t' := s1.toks) hk
      exact ⟨s1.heap.objs.size + 1, [s1.heap.objs.size + 1, s1.heap.objs.size], _, _, H1, rfl, I2, turn_enT a (s1.heap.objs.size + 1) s1.heap.objs.size, ⟨⟨.none, he⟩, ⟨_, hit, rfl, rfl⟩, Nat.succ_ne_self _⟩, fresh, q⟩

/-! ### zip of a list and a tuple, in any order -/
def ItzB (k1 k2 : Bool) (K : PySem.W.Frag) (a b : Addr) : It :=
  ⟨fun i H => ∃ (xs ys : List V) (x y : V), SqB k1 K H a xs ∧ SqB k2 K H b ys ∧ xs[i]? = some x ∧ ys[i]? = some y,
    fun i H v H' => ∃ T x y, v = .ref T ∧ H T = none ∧ H' = upd H T (.tup [x, y]) ∧ (∀ xs, SqB k1 K H a xs → xs[i]? = some x) ∧ ∀ ys, SqB k2 K H b ys → ys[i]? = some y,
    fun i H => ∃ xs ys : List V, SqB k1 K H a xs ∧ SqB k2 K H b ys ∧ i ≤ xs.length ∧ i ≤ ys.length ∧ (xs.length = i ∨ ys.length = i)⟩
theorem turn_zipB {P : Program} {w : World} {K : PySem.W.Frag} {elts : List Expr} {kk : Nat} {tpos : Pos} {a b z TI TO i1 i2 : Addr} (k1 k2 : Bool) (D : ZipSep2 z TI TO i1 i2 [i1, a] [i2, b]) :
    Turn P w K (.Tuple elts kk tpos) (ItzB k1 k2 K a b) [z, TI, TO, i1, i2] z (fun i h => IsZip h z TI TO .none ∧ IsPair h TI (.ref i1) (.ref i2) ∧ (∃ x y, IsPair h TO x y) ∧ ItB k1 h i1 a i ∧ ItB k2 h i2 b i) where
  mem := by simp
  obj := fun i h st c hc => by
    obtain ⟨hz, hTI, ⟨x, y, hTO⟩, h1, h2⟩ := st
    have e' : c = z ∨ c = TI ∨ c = TO ∨ c = i1 ∨ c = i2 := by simpa using hc
    have it : ∀ {k it a i}, ItB k h it a i → ∃ o, h.get? it = some o ∧ ∀ v, o.data ≠ .cell v := fun {k it a i} x => by
      cases k <;> obtain ⟨o, ho, _, hd⟩ := x <;> exact ⟨o, ho, fun v q => by rw [hd] at q; cases q⟩
    rcases e' with q | q | q | q | q
    · rw [q]; exact ⟨_, hz, fun v q => nomatch q⟩
    · rw [q]; exact ⟨_, hTI, fun v q => nomatch q⟩
    · rw [q]; exact ⟨_, hTO, fun v q => nomatch q⟩
    · rw [q]; exact it h1
    · rw [q]; exact it h2
  keep := fun i h h' st k => by
    obtain ⟨hz, hTI, ⟨x, y, hTO⟩, h1, h2⟩ := st
    exact ⟨k z (by simp) _ hz, k TI (by simp) _ hTI, ⟨x, y, k TO (by simp) _ hTO⟩, itB_at h1 fun o q => k i1 (by simp) o q, itB_at h2 fun o q => k i2 (by simp) o q⟩
  item := by
    intro X hP hw hK hc i pins s σ H E I hf st hg
    subst hP hw hK
    obtain ⟨hz, hTI, ⟨x0, y0, hTO⟩, h1, h2⟩ := st
    obtain ⟨xs, ys, x, y, hqx, hqy, hx, hy⟩ := hg
    obtain ⟨its, rv, p⟩ := invB I hqx
    obtain ⟨its2, rv2, p2⟩ := invB I hqy
    obtain ⟨u, hu, ru⟩ := rv.get hx
    obtain ⟨u2, hu2, ru2⟩ := rv2.get hy
    have hzl : z < s.heap.objs.size := Heap.lt_size hz
    have hh : X.A.in1.handled = none := I.ok.hd hc
    have l1 : i < its.toArray.size := by
      have := (List.getElem?_eq_some_iff.mp hu).1
      simpa using this
    have l2 : i < its2.toArray.size := by
      have := (List.getElem?_eq_some_iff.mp hu2).1
      simpa using this
    refine wpAny_pyNext_zipD2_item D (drawsB hh k1 i1 a (neB h1 p) its.toArray) (drawsB hh k2 i2 b (neB h2 p2) its2.toArray) hz hTI hTO ⟨h1, p⟩ ⟨h2, p2⟩ l1 l2 fun v1 v2 h' tk e1 e2 z' TO' h1' h2' hT hsz hk => ?_
    have q1 : v1 = u := by
      have : its[i]? = some v1 := by simpa using e1
      rw [hu] at this
      exact (Option.some.inj this).symm
    have q2 : v2 = u2 := by
      have : its2[i]? = some v2 := by simpa using e2
      rw [hu2] at this
      exact (Option.some.inj this).symm
    subst q1 q2
    refine ⟨_, rfl, wpAny_letOwnedTupleGo_zip (s := { s with heap := h', toks := tk }) z' fun h'' z'' sb => ?_⟩
    have hT2 : h''.get? s.heap.objs.size = some { cls := .type "tuple", data := .seq #[v1, v2] } := (sb.2 _ (Nat.ne_of_gt hzl)).trans hT
    have new : ObjOk X.prog X.w (upd H s.heap.objs.size (.tup [x, y])) h'' s.heap.objs.size (.tup [x, y]) :=
      ⟨by show 2 ≤ sizeLine; decide, [v1, v2], .cons ru (.cons ru2 .nil), ⟨_, hT2, rfl, _, rfl⟩⟩
    have I1 : Inv X pins σ (upd H s.heap.objs.size (.tup [x, y])) { s with heap := h'', toks := tk } :=
      I.turnedNew (t' := tk) (ch := [z, TI, TO, i1, i2]) (fun c o hb q => (sb.2 c (fun q' => hb (by simp [q']))).trans (hk c o (fun q' => hb (by simp [q'])) (fun q' => hb (by simp [q'])) (fun q' => hb (by simp [q'])) (fun q' => hb (by simp [q'])) q)) hf (Nat.le_refl _) new
    refine ⟨.ref s.heap.objs.size, _, I1, rfl, ⟨_, x, y, rfl, I.hok.fresh (Nat.le_refl _), rfl, fun l hl => by rw [injB I hl hqx]; exact hx, fun l hl => by rw [injB I hl hqy]; exact hy⟩, ⟨z'', ?_, ⟨v1, v2, ?_⟩, ?_, ?_⟩, fun c hcm => ?_⟩
    · exact (sb.2 _ D.TIz).trans (hk _ _ D.TIz D.TITO D.TIi1 D.TIi2 hTI)
    · exact (sb.2 _ D.TOz).trans TO'
    · exact itB_at h1'.1 fun o q => (sb.2 _ (Ne.symm D.zi1)).trans q
    · exact itB_at h2'.1 fun o q => (sb.2 _ (Ne.symm D.zi2)).trans q
    · have hlt : c < s.heap.objs.size := by
        have e' : c = z ∨ c = TI ∨ c = TO ∨ c = i1 ∨ c = i2 := by simpa using hcm
        rcases e' with q | q | q | q | q
        · rw [q]; exact hzl
        · rw [q]; exact Heap.lt_size hTI
        · rw [q]; exact Heap.lt_size hTO
        · rw [q]; obtain ⟨_, e1, _⟩ := itB_obj h1; exact Heap.lt_size e1
        · rw [q]; obtain ⟨_, e1, _⟩ := itB_obj h2; exact Heap.lt_size e1
      rw [upd_ne (Nat.ne_of_lt hlt)]
      exact (hf c hcm).1
  done := by
    intro X hP hw hK hc i pins s σ H E I hf st hg
    subst hP hw hK
    obtain ⟨hz, hTI, ⟨x0, y0, hTO⟩, h1, h2⟩ := st
    obtain ⟨xs, ys, hqx, hqy, m1, m2, hend⟩ := hg
    obtain ⟨its, rv, p⟩ := invB I hqx
    obtain ⟨its2, rv2, p2⟩ := invB I hqy
    have l1 := rv.length
    have l2 := rv2.length
    have hh : X.A.in1.handled = none := I.ok.hd hc
    refine wpAny_pyNext_zipD2_end D (drawsB hh k1 i1 a (neB h1 p) its.toArray) (drawsB hh k2 i2 b (neB h2 p2) its2.toArray) hz hTI hTO ⟨h1, p⟩ ⟨h2, p2⟩ (by simp; omega) (by simp; omega) (by simp; omega) fun h' tk hk => ⟨rfl, ?_⟩
    exact I.turnedL (t' := tk) (ch := [z, TI, TO, i1, i2]) (fun c o hb q =>
      hk c o (fun q' => hb (by simp [q'])) (fun q' => hb (by simp [q'])) (fun q' => hb (by simp [q'])) (fun q' => hb (by simp [q'])) q) hf
  self := fun A i s Q E st h => wpAny_pyIter_zip st.1 h
def iZipB (K : PySem.W.Frag) (ta : TA) : TI := fun σ H R => ta σ H fun vs H1 => ∃ a b xs ys k1 k2, vs = [.ref a, .ref b] ∧ SqB k1 K H1 a xs ∧ SqB k2 K H1 b ys ∧ R (ItzB k1 k2 K a b) H1
theorem pi_zipB {X : Cx} {e e2 : Expr} {ta : TA} {p pos tpos : Pos} {elts : List Expr} {kk : Nat} (hg : Gl X "zip") (hm : X.mg "zip" = none) (ha : PA X [e, e2] ta)
    (hs : starEach [e, e2] X.env = (false, eval e X.env) :: starEach [e2] X.env := by rfl) (hpl : (backTo pos (starEach [e2] X.env)).any (·.1) = false := by rfl) :
    PI X (.Tuple elts kk tpos) (.Call (.Name "zip" p) [e, e2] [] pos) (iZipB X.K ta) := by
  refine ⟨fun pins s σ H R I h => ?_⟩
  refine Call_ (ld_blt I hg hm PyProof.Rows.boot_zip (PyProof.Rows.callWith_type1 (thn (ha.run pos pins s σ H _ I h) fun us s1 ⟨vs, H1, I1, r1, q1⟩ => ?_) hs hpl))
  obtain ⟨a, b, xs, ys, k1, k2, ex, hqx, hqy, q⟩ := q1
  subst ex
  cases r1 with
  | cons r rr =>
    cases rr with
    | cons r' rr =>
      cases rr
      cases r
      cases r'
      have fresh5 : ∀ c, c ∈ [s1.heap.objs.size + 4, s1.heap.objs.size + 2, s1.heap.objs.size + 3, s1.heap.objs.size, s1.heap.objs.size + 1] → FpOk X pins H1 c := fun c hcm => by
        have e' : c = s1.heap.objs.size + 4 ∨ c = s1.heap.objs.size + 2 ∨ c = s1.heap.objs.size + 3 ∨ c = s1.heap.objs.size ∨ c = s1.heap.objs.size + 1 := by simpa using hcm
        have hle : s1.heap.objs.size ≤ c := by
          rcases e' with z | z | z | z | z
          · rw [z]; exact Nat.le_add_right _ _
          · rw [z]; exact Nat.le_add_right _ _
          · rw [z]; exact Nat.le_add_right _ _
          · rw [z]; exact Nat.le_refl _
          · rw [z]; exact Nat.le_add_right _ _
        exact I1.fpOk hle (I1.hok.fresh hle)
      obtain ⟨its, rv, p1⟩ := invB I1 hqx
      obtain ⟨its2, rv2, p2⟩ := invB I1 hqy
      obtain ⟨o1, f1, B1⟩ := beginsB k1 a its.toArray
      obtain ⟨o2, f2, B2⟩ := beginsB k2 b its2.toArray
      have la : a < s1.heap.objs.size := by obtain ⟨_, q, _⟩ := hsB_obj p1; exact Heap.lt_size q
      have lb : b < s1.heap.objs.size := by obtain ⟨_, q, _⟩ := hsB_obj p2; exact Heap.lt_size q
      refine zip_begins2 B1 B2 p1 p2 fun h' hz hTI hTO g1 g2 hsz hk => wpAny_pyIter_zip hz ?_
      have I2 : Inv X pins σ H1 { s1 with heap := h' } := I1.kept (t' := s1.toks) hk
      exact ⟨s1.heap.objs.size + 4, [s1.heap.objs.size + 4, s1.heap.objs.size + 2, s1.heap.objs.size + 3, s1.heap.objs.size, s1.heap.objs.size + 1], _, _, H1, rfl, I2, turn_zipB k1 k2 (zip_sep2 (fp1 := [a]) (fp2 := [b]) (by simp [la]) (by simp [lb])), ⟨hz, hTI, ⟨_, _, hTO⟩, f1 _ _ g1, f2 _ _ g2⟩, fresh5, q⟩

/-! ### a tuple backwards -/
theorem places_rev (n : Nat) : Builtin.Slice.sliceAdjust none none (-1) (n : Int) = ((n : Int) - 1, -1) := by
  unfold Builtin.Slice.sliceAdjust
  simp
theorem places_rev2 (n : Nat) : Builtin.Slice.slicePlaces ((n : Int) - 1) (-1) (-1) = n := by
  unfold Builtin.Slice.slicePlaces
  simp
  omega
end TP

set_option maxHeartbeats 2000000
namespace HT
open PySem PySem.Spec PyProof.Rows
section
variable {prog : Program} {w : World} {A : Around} {E : Value → Shared → Prop} {s : Shared}
theorem sliceApplied_rev {sl : Addr} {vl vu vs : Value} {n : Nat} {Q : Int × Int × Nat → Shared → Prop} (hs : s.heap.IsSliceOf sl vl vu vs) (pl : IsPart vl none) (pu : IsPart vu none) (ps : IsPart vs (some (-1)))
    (h : Q ((n : Int) - 1, -1, n) s) : wpAny (model prog w) A (Builtin.Slice.sliceApplied (.ref sl) (pure (n : Int))) Q E s := by
  obtain ⟨os, hos, hcs, hds⟩ := id hs
  unfold Builtin.Slice.sliceApplied Builtin.Slice.sliceFields
  refine wpAny_bind (wpAny_bind (wpAny_field hos hds (x := vl) rfl (wpAny_bind (wpAny_field hos hds (x := vu) rfl (wpAny_bind (wpAny_field hos hds (x := vs) rfl (wpAny_pure ?_)))))))
  refine wpAny_bind (slicePart_ ps ?_)
  show wpAny _ _ (if ((-1 : Int) == 0) = true then _ else _) _ _ s
  rw [if_neg (by decide)]
  refine wpAny_bind (slicePart_ pl (wpAny_bind (slicePart_ pu (wpAny_bind (wpAny_pure ?_)))))
  show wpAny _ _ (match Builtin.Slice.sliceAdjust none none (-1) (n : Int) with | (lo, hi) => pure (lo, (-1 : Int), Builtin.Slice.slicePlaces lo hi (-1))) _ _ s
  rw [TP.places_rev n]
  show wpAny _ _ (pure ((n : Int) - 1, (-1 : Int), Builtin.Slice.slicePlaces ((n : Int) - 1) (-1) (-1))) _ _ s
  rw [TP.places_rev2]
  exact wpAny_pure h
theorem fm_congr {α β : Type} {f g : α → Option β} : ∀ {l : List α}, (∀ a ∈ l, f a = g a) → l.filterMap f = l.filterMap g
  | [], _ => rfl
  | a :: l, h => by
    rw [List.filterMap_cons, List.filterMap_cons, h a (by simp), fm_congr fun b hb => h b (by simp [hb])]
theorem pick_rev (xs : Array Value) : ((List.range xs.size).filterMap fun (m : Nat) => xs[(((xs.size : Nat) : Int) - 1 + (m : Int) * (-1)).toNat]?).toArray = xs.toList.reverse.toArray := by
  congr 1
  have e : ∀ m ∈ List.range xs.size, xs[(((xs.size : Nat) : Int) - 1 + (m : Int) * (-1)).toNat]? = xs.toList.reverse[m]? := fun m hm => by
    have hm := List.mem_range.mp hm
    have e1 : (((xs.size : Nat) : Int) - 1 + (m : Int) * (-1)).toNat = xs.size - 1 - m := by omega
    rw [e1, List.getElem?_reverse (by simpa using hm)]
    simp
  rw [fm_congr e]
  have : ∀ (ys : List Value), (List.range ys.length).filterMap (fun m => ys[m]?) = ys := by
    intro ys
    induction ys with
    | nil => rfl
    | cons y ys ih =>
      rw [List.length_cons, List.range_succ_eq_map, List.filterMap_cons, List.filterMap_map]
      simp only [List.getElem?_cons_zero]
      congr 1
  have h2 := this xs.toList.reverse
  rw [List.length_reverse, Array.length_toList] at h2
  exact h2
theorem getItem_tuple_rev {t sl : Addr} {items : Array Value} {vl vu vs : Value} {Q : Value → Shared → Prop} (ht : IsTup s.heap t items) (hs : s.heap.IsSliceOf sl vl vu vs) (pl : IsPart vl none) (pu : IsPart vu none) (ps : IsPart vs (some (-1)))
    (h : Q (.ref s.heap.objs.size) { s with heap := s.heap.push { cls := .type "tuple", data := .seq items.toList.reverse.toArray } })
    (hsz : items.size ≤ sizeLine) : wpAny (model prog w) A (getItem (.ref t) (.ref sl)) Q E s := by
  have htake : sizeOk (.seq items.toList.reverse.toArray) := by
    show items.toList.reverse.toArray.size ≤ sizeLine
    rw [List.size_toArray, List.length_reverse, Array.length_toList]
    exact hsz
  obtain ⟨os, hos, hcs, hds⟩ := id hs
  have hTs : s.TypeIs (.ref sl) "slice" := ⟨os, hos, hcs⟩
  unfold getItem
  try with_reducible refine wpAny_holding ?_
  first | refine wpAny_bind (wpAny_pure ?_) | skip
  refine wpAny_bind (wpAny_sequenceKey ht.typeIs (by decide) ?_)
  refine wpAny_bind (wpAny_callSpecial?_slot (name := Str.ofString "__getitem__") ht.typeIs PyProof.Rows.slot_tuple_getitem
    (wpAny_call_entry PyProof.Rows.slot_tuple_getitem ht.typeIs entry_tuple_getitem ?_ (args_tuple_getitem _ _)))
  show wpAny _ _ (Builtin.Tuple.tupleItemsOf (.ref t) >>= _) _ _ s
  refine wpAny_bind (tupleItemsOf_ ht ?_)
  refine wpAny_bind (wpAny_typeOf hTs ?_)
  rw [if_pos (by decide)]
  refine wpAny_bind (sliceApplied_rev hs pl pu ps ?_)
  show wpAny _ _ (if ((((items.size : Nat) : Int) - 1) == 0 && (-1 : Int) == 1 && items.size == items.size) = true then _ else _) _ _ s
  have hno : ¬ (((((items.size : Nat) : Int) - 1) == 0 && (-1 : Int) == 1 && items.size == items.size) = true) := by
    intro q
    rw [Bool.and_eq_true, Bool.and_eq_true] at q
    exact absurd q.1.2 (by decide)
  rw [if_neg hno, pick_rev]
  first
    | exact wpAny_bind (m := Builtin.Tuple.tupleExact _) (wpAny_newObj_type (wpAny_pure ⟨_, rfl, wpAny_pure h⟩) htake)
    | exact wpAny_bind (m := Builtin.Tuple.tupleExact _) (wpAny_newObj_type (wpAny_bind (wpAny_pure (wpAny_pure ⟨_, rfl, wpAny_pure h⟩))) htake)
    | exact wpAny_bind (wpAny_bind (m := Builtin.Tuple.tupleExact _) (wpAny_newObj_type (wpAny_pure (wpAny_pure ⟨_, rfl, wpAny_pure h⟩)) htake))
    | exact wpAny_bind (wpAny_bind (m := Builtin.Tuple.tupleExact _) (wpAny_newObj_type (wpAny_pure ⟨_, rfl, wpAny_pure h⟩) htake))
end
end HT
namespace TP
open PySem PySem.Spec PyProof.Rows L2
/-- xs[::-1] of a list or of a tuple -/
def tRevB (K : PySem.W.Frag) (te : TE) : TE := fun σ H Q => te σ H fun x H1 => ∃ a xs, x = .ref a ∧ ((SqL K H1 a xs ∧ ∀ p, H1 p = none → Q (.ref p) (upd H1 p (.lst xs.reverse))) ∨ (SqT K H1 a xs ∧ ∀ p, H1 p = none → Q (.ref p) (upd H1 p (.tup xs.reverse))))
theorem pe_revB {X : Cx} {e : Expr} {te : TE} {k : Nat} {p1 p2 p3 pos : Pos} (he : PE X e te) : PE X (.Subscript e (.Slice none none (some (.UnaryOp .USub (.Constant (.int 1) k p1) p2)) p3) pos) (tRevB X.K te) := by
  refine ⟨fun pins s σ H Q I h => ?_⟩
  refine Subscript_ (thn (he.run pins s σ H _ I h) fun v s1 ⟨x, H1, I1, r1, q1⟩ => ?_)
  obtain ⟨a, xs, ex, q1⟩ := q1
  subst ex
  cases r1
  have hst : PO X (some (.UnaryOp .USub (.Constant (.int 1) k p1) p2)) (tPart (tUn (rU fun i => .int (-i)) (tC (.int 1)))) := po_some (pe_un un_neg pe_int)
  refine wpAny_Slice (thn (po_none.run pins s1 σ H1 (fun o H2 => o = none ∧ H2 = H1) I1 ⟨rfl, rfl⟩) fun vl s2 ⟨l, H2, I2, pl, el, e2⟩ => ?_)
  subst el e2
  refine thn (po_none.run pins s2 σ H2 (fun o H3 => o = none ∧ H3 = H2) I2 ⟨rfl, rfl⟩) fun vu s3 ⟨u, H3, I3, pu, eu, e3⟩ => ?_
  subst eu e3
  refine thn (hst.run pins s3 σ H3 (fun o H4 => o = some (-1) ∧ H4 = H3) I3 ⟨1, rfl, -1, rfl, rfl, rfl⟩) fun vs s4 ⟨o, H4, I4, ps, eo, e4⟩ => ?_
  subst eo e4
  have I5 : Inv X pins σ H4 { s4 with heap := s4.heap.push { cls := .type "slice", data := .fields #[vl, vu, vs] } } := I4.kept (t' := s4.toks) fun b ob q => Heap.get?_push_of_some _ q
  show wpAny (model X.prog X.w) X.A (subscriptTail e (.Slice none none (some (.UnaryOp .USub (.Constant (.int 1) k p1) p2)) p3) (.ref a) (.ref s4.heap.objs.size)) (EP X pins σ Q) X.xe { s4 with heap := s4.heap.push { cls := .type "slice", data := .fields #[vl, vu, vs] } }
  rcases q1 with ⟨hx, q⟩ | ⟨hx, q⟩
  · obtain ⟨its, r, ht, hz⟩ := I5.list hx
    have hlen := r.length
    refine tail_any (ops := [.ref a, .ref s4.heap.objs.size]) ht.isList.typeIs (PySem.slot_list_getitem.lookup) ?_ (by with_unfolding_all rfl)
    refine wpAny_getItem_list_slice ht.isList (Heap.IsSliceOf.new _ vl vu vs) pl pu ps (by decide) ?_ (by rw [List.size_toArray]; omega)
    rw [PySem.W.krv_pick]
    refine ⟨.ref _, _, I5.laid (t' := s4.toks) (o := .lst xs.reverse) (fun b ob q => Heap.get?_push_of_some _ q) (Nat.le_refl _) ?_, rfl, q _ (I5.hok.fresh (Nat.le_refl _))⟩
    exact ⟨by rw [List.length_reverse]; exact hz, _, 0, r.reverse, Heap.get?_push_size _ rfl⟩
  · obtain ⟨its, r, ht, hz⟩ := I5.tuple hx
    have hlen := r.length
    refine tail_any (ops := [.ref a, .ref s4.heap.objs.size]) ht.typeIs (PyProof.Rows.slot_tuple_getitem.lookup) ?_ (by with_unfolding_all rfl)
    refine HT.getItem_tuple_rev ht (Heap.IsSliceOf.new _ vl vu vs) pl pu ps ?_ (by rw [List.size_toArray]; omega)
    refine ⟨.ref _, _, I5.laid (t' := s4.toks) (o := .tup xs.reverse) (fun b ob q => Heap.get?_push_of_some _ q) (Nat.le_refl _) ?_, rfl, q _ (I5.hok.fresh (Nat.le_refl _))⟩
    exact ⟨by rw [List.length_reverse]; exact hz, _, r.reverse, IsTup.new _ _⟩
end TP

set_option maxHeartbeats 2000000
namespace TP
open PySem PySem.Spec PyProof.Rows L2
section
variable {X : Cx} {G : Gx}
theorem lQ.on {K : PySem.W.Frag} {z : Addr → Prop} {H H1 : Hp} {S S1 : Sto} {R : RP} {Q : VK} (k : lQ K z H S R Q) (x : Ext H S H1 S1) : lQ K z H1 S1 R Q := fun r S' v H' x2 => k r S' v H' (x.trans x2)
theorem lX.on {K : PySem.W.Frag} {z : Addr → Prop} {H H1 : Hp} {S S1 : Sto} {R : XP} {Q : Value → Option Addr → Hp → Prop} (k : lX K z H S R Q) (x : Ext H S H1 S1) : lX K z H1 S1 R Q := fun r S' v d H' x2 => k r S' v d H' (x.trans x2)
theorem star_e {e : Expr} {es : List Expr} {env : PySem.Env} (h : notStar e = true) : starEach (e :: es) env = (false, eval e env) :: starEach es env := by
  cases e <;> first | rfl | cases h
theorem star_all : ∀ {as : E} {es : List Expr} {G : Gx}, (chk as G).a es = true → es.all notStar = true
  | as, [], G, h => rfl
  | as, e :: es, G, h => by
    cases as with
    | cons a bs =>
      simp only [chk, Bool.and_eq_true] at h
      simp only [List.all_cons, h.1.1, star_all h.2, Bool.and_self]
    | _ => simp [chk, nA] at h
theorem back_any {pos : Pos} {env : PySem.Env} : ∀ {es : List Expr}, es.all notStar = true → (backTo pos (starEach es env)).any (·.1) = false
  | [], _ => rfl
  | e :: es, h => by
    simp only [List.all_cons, Bool.and_eq_true] at h
    rw [star_e h.1]
    show (false || (backTo pos (starEach es env)).any (·.1)) = false
    rw [back_any h.2]; rfl
theorem back_all {pos : Pos} {env : PySem.Env} : ∀ {es : List Expr}, es.all notStar = true → (backTo pos (starEach es env)).all (fun x => !x.1) = true
  | [], _ => rfl
  | e :: es, h => by
    simp only [List.all_cons, Bool.and_eq_true] at h
    rw [star_e h.1]
    show (true && (backTo pos (starEach es env)).all (fun x => !x.1)) = true
    rw [back_all h.2]; rfl

/-! ### one by one -/
theorem je_c {e : Expr} {t : T} {v : V} (h : PE X e (tC v)) (r : ∀ z H S, RT X.K z H S t v) : JE X e (fun _ S R _ => R t S) := fun W _ => pe_imp h fun σ H Q q => by
  obtain ⟨z, env, S, R, E, he, hr, hw, hR, hE⟩ := q
  exact hR _ _ _ _ (Ext.refl _ _) hr (r _ _ _) hw
theorem je_var (C : CtxOk X G) {i : Nat} {x : Str} {pos : Pos} (h : G.N[i]? = some x) (hv : visB G.sc x = true) (h1 : (x == ("__debug__" : Str)) = false) (h2 : (x == ("__classdict__" : Str)) = false) : JE X (.Name x pos) (sem G (.var i)).e := fun W _ =>
  pe_imp (pe_var (i := i) (by rw [C.hN]; exact h) (by rw [C.sc]; exact vis_of hv) h1 h2) fun σ H Q q => by
  obtain ⟨z, env, S, R, E, he, hr, hw, hR, hE⟩ := q
  simp only [sem, Sm.val] at hw
  split at hw
  · rename_i t e
    obtain ⟨v, e2, r⟩ := he.2 i t e
    exact ⟨v, e2, hR _ _ _ _ (Ext.refl _ _) hr r hw⟩
  · exact hw.elim
theorem je_con (C : CtxOk X G) {k : Nat} {x : Str} {t : T} {pos : Pos} (h : G.cons[k]? = some (x, t)) (g : glB G.sc x = true) : JE X (.Name x pos) (fun _ S R _ => R t S) := by
  obtain ⟨u, hm, v, rv, r⟩ := C.cs k x t h
  obtain ⟨g1, g2, _⟩ := gl_of C g
  exact je_c (pe_glob g1 hm rv g2) r
theorem je_bin {l r : Expr} {op : Operator} {pos : Pos} {wa wb : WE1} {s : O2} (o : OpR X (binaryOp op) (lO2 X.K s)) (ha : JE X l wa) (hb : JE X r wb) : JE X (.BinOp l op r pos) (fun env S R E => wa env S (fun x S1 => wb env S1 (fun y S2 => s x y S2 R) E) E) := fun W tk =>
  pe_imp (pe_op o (ha W tk) (hb W tk)) fun σ H Q q => by
  obtain ⟨z, env, S, R, E, he, hr, hw, hR, hE⟩ := q
  refine ⟨z, env, S, _, E, he, hr, hw, fun x S1 v H1 x1 r1 t1 q1 => ?_, hE⟩
  refine ⟨z, env, S1, _, E, he.mn x1, r1, q1, fun y S2 u H2 x2 r2 t2 q2 => ?_, lX.on hE x1⟩
  exact ⟨z, x, y, S2, R, r2, t1.mn x2, t2, q2, lQ.on hR (x1.trans x2)⟩
theorem je_neg {l : Expr} {pos : Pos} {wa : WE1} (ha : JE X l wa) : JE X (.UnaryOp .USub l pos) (fun env S R E => wa env S (fun x S1 => oNeg x S1 R) E) := fun W tk =>
  pe_imp (pe_un ok_neg (ha W tk)) fun σ H Q q => by
  obtain ⟨z, env, S, R, E, he, hr, hw, hR, hE⟩ := q
  refine ⟨z, env, S, _, E, he, hr, hw, fun x S1 v H1 x1 r1 t1 q1 => ?_, hE⟩
  exact ⟨z, x, S1, R, r1, t1, q1, lQ.on hR x1⟩
theorem je_cmp {l r : Expr} {op : CmpOp} {pos : Pos} {wa wb : WE1} {s : O2} (o : OpR X (compareOp op) (lO2 X.K s)) (hm : behindInMarks op r = false) (ha : JE X l wa) (hb : JE X r wb) : JE X (.Compare l [op] [r] pos) (fun env S R E => wa env S (fun x S1 => wb env S1 (fun y S2 => s x y S2 R) E) E) := fun W tk =>
  pe_imp (pe_cmpR o (ha W tk) (hb W tk) hm) fun σ H Q q => by
  obtain ⟨z, env, S, R, E, he, hr, hw, hR, hE⟩ := q
  refine ⟨z, env, S, _, E, he, hr, hw, fun x S1 v H1 x1 r1 t1 q1 => ?_, hE⟩
  refine ⟨z, env, S1, _, E, he.mn x1, r1, q1, fun y S2 u H2 x2 r2 t2 q2 => ?_, lX.on hE x1⟩
  exact ⟨z, x, y, S2, R, r2, t1.mn x2, t2, q2, lQ.on hR (x1.trans x2)⟩
theorem jt_cmp {l r : Expr} {op : CmpOp} {pos : Pos} {wa wb : WE1} {s : O2} (o : OpR X (compareOp op) (lO2 X.K s)) (hm : behindInMarks op r = false) (ha : JE X l wa) (hb : JE X r wb) : JT X (.Compare l [op] [r] pos) (boolOf fun env S R E => wa env S (fun x S1 => wb env S1 (fun y S2 => s x y S2 R) E) E) := fun W tk =>
  pt_imp (pt_cmpR o (ha W tk) (hb W tk) hm) fun σ H Q q => by
  obtain ⟨z, env, S, R, E, he, hr, hw, hR, hE⟩ := q
  refine ⟨z, env, S, _, E, he, hr, hw, fun x S1 v H1 x1 r1 t1 q1 => ?_, hE⟩
  refine ⟨z, env, S1, _, E, he.mn x1, r1, q1, fun y S2 u H2 x2 r2 t2 q2 => ?_, lX.on hE x1⟩
  refine ⟨z, x, y, S2, _, r2, t1.mn x2, t2, q2, fun r S' v' H' x3 r3 t3 q3 => ?_⟩
  split at q3
  · rename_i k
    cases t3
    exact ⟨k, rfl, hR _ _ _ _ ((x1.trans x2).trans x3) r3 rfl q3⟩
  · exact q3.elim
theorem je_chain {l r u : Expr} {op op2 : CmpOp} {pos : Pos} {wa wb wc : WE1} {s s2 : O2} (o : OpR X (compareOp op) (lO2 X.K s)) (o2 : OpR X (compareOp op2) (lO2 X.K s2)) (hm : lastMarks [op, op2] [r, u] = false) (ha : JE X l wa) (hb : JE X r wb) (hc : JE X u wc) :
    JE X (.Compare l [op, op2] [r, u] pos) (fun env S R E => wa env S (fun x S1 => wb env S1 (fun y S2 => s x y S2 (fun b S3 => match b with
      | .bl true => wc env S3 (fun u S4 => s2 y u S4 R) E
      | .bl false => R (.bl false) S3
      | _ => False)) E) E) := fun W tk =>
  pe_imp (pe_chain o o2 (ha W tk) (hb W tk) (hc W tk) hm) fun σ H Q q => by
  obtain ⟨z, env, S, R, E, he, hr, hw, hR, hE⟩ := q
  refine ⟨z, env, S, _, E, he, hr, hw, fun x S1 v H1 x1 r1 t1 q1 => ?_, hE⟩
  refine ⟨z, env, S1, _, E, he.mn x1, r1, q1, fun y S2 w H2 x2 r2 t2 q2 => ?_, lX.on hE x1⟩
  refine ⟨z, x, y, S2, _, r2, t1.mn x2, t2, q2, fun b S3 v' H3 x3 r3 t3 q3 => ?_⟩
  split at q3
  · cases t3
    refine ⟨true, rfl, ?_⟩
    rw [if_pos rfl]
    refine ⟨z, env, S3, _, E, he.mn ((x1.trans x2).trans x3), r3, q3, fun u S4 v4 H4 x4 r4 t4 q4 => ?_, lX.on hE ((x1.trans x2).trans x3)⟩
    exact ⟨z, y, u, S4, R, r4, (t2.mn x3).mn x4, t4, q4, lQ.on hR (((x1.trans x2).trans x3).trans x4)⟩
  · cases t3
    refine ⟨false, rfl, ?_⟩
    rw [if_neg Bool.false_ne_true]
    exact hR _ _ _ _ ((x1.trans x2).trans x3) r3 (.bl _) q3
  · exact q3.elim
theorem jt_chain {l r u : Expr} {op op2 : CmpOp} {pos : Pos} {wa wb wc : WE1} {s s2 : O2} (o : OpR X (compareOp op) (lO2 X.K s)) (o2 : OpR X (compareOp op2) (lO2 X.K s2)) (hm : lastMarks [op, op2] [r, u] = false) (ha : JE X l wa) (hb : JE X r wb) (hc : JE X u wc) :
    JT X (.Compare l [op, op2] [r, u] pos) (boolOf fun env S R E => wa env S (fun x S1 => wb env S1 (fun y S2 => s x y S2 (fun b S3 => match b with
      | .bl true => wc env S3 (fun u S4 => s2 y u S4 R) E
      | .bl false => R (.bl false) S3
      | _ => False)) E) E) := fun W tk =>
  pt_imp (pt_chain o o2 (ha W tk) (hb W tk) (hc W tk) hm) fun σ H Q q => by
  obtain ⟨z, env, S, R, E, he, hr, hw, hR, hE⟩ := q
  refine ⟨z, env, S, _, E, he, hr, hw, fun x S1 v H1 x1 r1 t1 q1 => ?_, hE⟩
  refine ⟨z, env, S1, _, E, he.mn x1, r1, q1, fun y S2 w H2 x2 r2 t2 q2 => ?_, lX.on hE x1⟩
  refine ⟨z, x, y, S2, _, r2, t1.mn x2, t2, q2, fun b S3 v' H3 x3 r3 t3 q3 => ?_⟩
  split at q3
  · cases t3
    refine ⟨true, rfl, ?_⟩
    rw [if_pos rfl]
    refine ⟨z, env, S3, _, E, he.mn ((x1.trans x2).trans x3), r3, q3, fun u S4 v4 H4 x4 r4 t4 q4 => ?_, lX.on hE ((x1.trans x2).trans x3)⟩
    refine ⟨z, y, u, S4, _, r4, (t2.mn x3).mn x4, t4, q4, fun b S5 v5 H5 x5 r5 t5 q5 => ?_⟩
    split at q5
    · rename_i k
      cases t5
      exact ⟨k, rfl, hR _ _ _ _ ((((x1.trans x2).trans x3).trans x4).trans x5) r5 rfl q5⟩
    · exact q5.elim
  · cases t3
    refine ⟨false, rfl, ?_⟩
    rw [if_neg Bool.false_ne_true]
    exact ⟨false, rfl, hR _ _ _ _ ((x1.trans x2).trans x3) r3 rfl q3⟩
  · exact q3.elim
/-- truth of any other expression's value -/
theorem tru_rel {K : PySem.W.Frag} {z : Addr → Prop} {H : Hp} {S : Sto} (hr : HR K z H S) {t : T} {v : V} {k : Bool} (h : RT K z H S t v) (e : tru S t = some k) : TruV K v H k := by
  have sq : ∀ {ts : List T}, seqOf S t = some ts → k = !ts.isEmpty → TruV K v H k := fun {ts} es ek => by
    obtain ⟨a, vs, rfl, q, rr⟩ := seq_rel hr h es
    have : vs.isEmpty = ts.isEmpty := by
      have := rr.len
      cases vs <;> cases ts <;> simp_all
    rcases q with q | q
    · exact .inl ⟨vs, q, by rw [ek, this]⟩
    · exact .inr (.inl ⟨vs, q, by rw [ek, this]⟩)
  cases t with
  | non => cases h; cases e; exact rfl
  | bl b => cases h; cases e; exact rfl
  | int i => cases h; cases e; exact rfl
  | str y =>
    cases h
    simp only [tru] at e
    split at e
    · rename_i hl
      cases e
      exact ⟨hl, rfl⟩
    · cases e
  | dct ks ts =>
    cases e
    cases h with
    | dct q n ek rr => exact .inr (.inr ⟨_, q, by rw [ek]; cases ‹List (Key × V)› <;> rfl⟩)
  | ty n => cases e
  | tup us => simp only [tru, Option.map_eq_some_iff] at e; obtain ⟨ts, e1, e2⟩ := e; exact sq e1 e2.symm
  | lst us => simp only [tru, Option.map_eq_some_iff] at e; obtain ⟨ts, e1, e2⟩ := e; exact sq e1 e2.symm
  | scr us => simp only [tru, Option.map_eq_some_iff] at e; obtain ⟨ts, e1, e2⟩ := e; exact sq e1 e2.symm
  | ref a => simp only [tru, Option.map_eq_some_iff] at e; obtain ⟨ts, e1, e2⟩ := e; exact sq e1 e2.symm
def plainT : Expr → Bool
  | .UnaryOp .Not _ _ => false
  | .BoolOp _ _ _ => false
  | .IfExp _ _ _ _ => false
  | .Compare _ _ _ _ => false
  | _ => true
theorem plain_is {e : Expr} {env : PySem.Env} (h : plainT e = true) : ∀ whole, isTrue e env whole = (do let v ← whole; standAt e.pos; holding [v] (truthy v)) := by
  intro whole
  cases e with
  | UnaryOp op x p => cases op <;> first | rfl | cases h
  | BoolOp _ _ _ => cases h
  | IfExp _ _ _ _ => cases h
  | Compare _ _ _ _ => cases h
  | _ => rfl
theorem jt_of {e : Expr} {w : WE1} (h : JE X e w) (p : plainT e = true) : JT X e (truthOf w) := fun W tk =>
  pt_imp (pt_truth (h W tk) (plain_is p)) fun σ H Q q => by
  obtain ⟨z, env, S, R, E, he, hr, hw, hR, hE⟩ := q
  refine ⟨z, env, S, _, E, he, hr, hw, fun x S1 v H1 x1 r1 t1 q1 => ?_, hE⟩
  split at q1
  · rename_i k ek
    exact ⟨k, tru_rel r1 t1 ek, hR _ _ _ _ x1 r1 rfl q1⟩
  · exact q1.elim
theorem je_one {e : Expr} {op : BoolOp} {pos : Pos} {w : WE1} (h : JE X e w) : JE X (.BoolOp op [e] pos) w := fun W tk => pe_one (h W tk)
theorem je_and {a b : Expr} {r : List Expr} {pos : Pos} {wa wb : WE1} (ha : JE X a wa) (hb : JE X (.BoolOp .And (b :: r) pos) wb) : JE X (.BoolOp .And (a :: b :: r) pos) (fun env S R E => wa env S (fun x S1 => match x with
      | .bl true => wb env S1 R E
      | .bl false => R (.bl false) S1
      | _ => False) E) := fun W tk =>
  pe_imp (pe_and (ha W tk) (hb W tk)) fun σ H Q q => by
  obtain ⟨z, env, S, R, E, he, hr, hw, hR, hE⟩ := q
  refine ⟨z, env, S, _, E, he, hr, hw, fun x S1 v H1 x1 r1 t1 q1 => ?_, hE⟩
  split at q1
  · cases t1
    refine ⟨true, rfl, ?_⟩
    rw [if_pos rfl]
    exact ⟨z, env, S1, _, E, he.mn x1, r1, q1, lQ.on hR x1, lX.on hE x1⟩
  · cases t1
    refine ⟨false, rfl, ?_⟩
    rw [if_neg Bool.false_ne_true]
    exact hR _ _ _ _ x1 r1 (.bl _) q1
  · exact q1.elim
theorem je_or {a b : Expr} {r : List Expr} {pos : Pos} {wa wb : WE1} (ha : JE X a wa) (hb : JE X (.BoolOp .Or (b :: r) pos) wb) : JE X (.BoolOp .Or (a :: b :: r) pos) (fun env S R E => wa env S (fun x S1 => match x with
      | .bl false => wb env S1 R E
      | .bl true => R (.bl true) S1
      | _ => False) E) := fun W tk =>
  pe_imp (pe_or (ha W tk) (hb W tk)) fun σ H Q q => by
  obtain ⟨z, env, S, R, E, he, hr, hw, hR, hE⟩ := q
  refine ⟨z, env, S, _, E, he, hr, hw, fun x S1 v H1 x1 r1 t1 q1 => ?_, hE⟩
  split at q1
  · cases t1
    refine ⟨false, rfl, ?_⟩
    rw [if_neg Bool.false_ne_true]
    exact ⟨z, env, S1, _, E, he.mn x1, r1, q1, lQ.on hR x1, lX.on hE x1⟩
  · cases t1
    refine ⟨true, rfl, ?_⟩
    rw [if_pos rfl]
    exact hR _ _ _ _ x1 r1 (.bl _) q1
  · exact q1.elim
theorem jw_one {e : Expr} {pos : Pos} {w : WT1} (h : JT X e w) : JW X (.BoolOp .And [e] pos) w ∧ JW X (.BoolOp .Or [e] pos) w := ⟨fun W tk => pw_and1 (h W tk), fun W tk => pw_or1 (h W tk)⟩
theorem jw_and {a b : Expr} {r : List Expr} {pos : Pos} {wa wb : WT1} (ha : JT X a wa) (hb : JW X (.BoolOp .And (b :: r) pos) wb) : JW X (.BoolOp .And (a :: b :: r) pos) (fun env S R E => wa env S (fun c S1 => if c = true then wb env S1 R E else R false S1) E) := fun W tk =>
  pw_imp (pw_and (ha W tk) (hb W tk)) fun σ H Q q => by
  obtain ⟨z, env, S, R, E, he, hr, hw, hR, hE⟩ := q
  refine ⟨z, env, S, _, E, he, hr, hw, fun x S1 v H1 x1 r1 t1 q1 => ?_, hE⟩
  subst t1
  split at q1
  · rename_i hx
    rw [if_pos hx]
    exact ⟨z, env, S1, _, E, he.mn x1, r1, q1, fun r S' v H' x2 => hR r S' v H' (x1.trans x2), lX.on hE x1⟩
  · rename_i hx
    rw [if_neg hx]
    exact hR _ _ _ _ x1 r1 rfl q1
theorem jw_or {a b : Expr} {r : List Expr} {pos : Pos} {wa wb : WT1} (ha : JT X a wa) (hb : JW X (.BoolOp .Or (b :: r) pos) wb) : JW X (.BoolOp .Or (a :: b :: r) pos) (fun env S R E => wa env S (fun c S1 => if c = true then R true S1 else wb env S1 R E) E) := fun W tk =>
  pw_imp (pw_or (ha W tk) (hb W tk)) fun σ H Q q => by
  obtain ⟨z, env, S, R, E, he, hr, hw, hR, hE⟩ := q
  refine ⟨z, env, S, _, E, he, hr, hw, fun x S1 v H1 x1 r1 t1 q1 => ?_, hE⟩
  subst t1
  split at q1
  · rename_i hx
    rw [if_pos hx]
    exact hR _ _ _ _ x1 r1 rfl q1
  · rename_i hx
    rw [if_neg hx]
    exact ⟨z, env, S1, _, E, he.mn x1, r1, q1, fun r S' v H' x2 => hR r S' v H' (x1.trans x2), lX.on hE x1⟩
theorem je_not {a : Expr} {pos : Pos} {wa : WE1} (ha : JE X a wa) : JE X (.UnaryOp .Not a pos) (fun env S R E => wa env S (fun x S1 => match x with
      | .bl c => R (.bl (!c)) S1
      | _ => False) E) := fun W tk =>
  pe_imp (pe_not (ha W tk)) fun σ H Q q => by
  obtain ⟨z, env, S, R, E, he, hr, hw, hR, hE⟩ := q
  refine ⟨z, env, S, _, E, he, hr, hw, fun x S1 v H1 x1 r1 t1 q1 => ?_, hE⟩
  split at q1
  · cases t1
    exact ⟨_, rfl, hR _ _ _ _ x1 r1 (.bl _) q1⟩
  · exact q1.elim
theorem jt_not {a : Expr} {pos : Pos} {wa : WT1} (ha : JT X a wa) : JT X (.UnaryOp .Not a pos) (fun env S R E => wa env S (fun c S1 => R (!c) S1) E) := fun W tk =>
  pt_imp (pt_not (ha W tk)) fun σ H Q q => by
  obtain ⟨z, env, S, R, E, he, hr, hw, hR, hE⟩ := q
  refine ⟨z, env, S, _, E, he, hr, hw, fun x S1 v H1 x1 r1 t1 q1 => ?_, hE⟩
  subst t1
  exact hR _ _ _ _ x1 r1 rfl q1
theorem je_ife {c a b : Expr} {pos : Pos} {wc : WT1} {wa wb : WE1} (hc : JT X c wc) (ha : JE X a wa) (hb : JE X b wb) : JE X (.IfExp c a b pos) (fun env S R E => wc env S (fun k S1 => if k = true then wa env S1 R E else wb env S1 R E) E) := fun W tk =>
  pe_imp (pe_ifExp (hc W tk) (ha W tk) (hb W tk)) fun σ H Q q => by
  obtain ⟨z, env, S, R, E, he, hr, hw, hR, hE⟩ := q
  refine ⟨z, env, S, _, E, he, hr, hw, fun x S1 v H1 x1 r1 t1 q1 => ?_, hE⟩
  subst t1
  split at q1
  · rename_i hx
    rw [if_pos hx]
    exact ⟨z, env, S1, _, E, he.mn x1, r1, q1, lQ.on hR x1, lX.on hE x1⟩
  · rename_i hx
    rw [if_neg hx]
    exact ⟨z, env, S1, _, E, he.mn x1, r1, q1, lQ.on hR x1, lX.on hE x1⟩
theorem ja_nil : JA X [] (fun _ S R _ => R [] S) := fun W tk => pa_imp pa_nil fun σ H Q q => by
  obtain ⟨z, env, S, R, E, he, hr, hw, hR, hE⟩ := q
  exact hR _ _ _ _ (Ext.refl _ _) hr .nil hw
theorem ja_cons {e : Expr} {es : List Expr} {wa : WE1} {wb : WA1} (ns : notStar e = true) (ha : JE X e wa) (hb : JA X es wb) : JA X (e :: es) (fun env S R E => wa env S (fun t S1 => wb env S1 (fun ts S2 => R (t :: ts) S2) E) E) := fun W tk =>
  pa_imp (pa_cons (ha W tk) (hb W tk) (star_e ns)) fun σ H Q q => by
  obtain ⟨z, env, S, R, E, he, hr, hw, hR, hE⟩ := q
  refine ⟨z, env, S, _, E, he, hr, hw, fun x S1 v H1 x1 r1 t1 q1 => ?_, hE⟩
  refine ⟨z, env, S1, _, E, he.mn x1, r1, q1, fun y S2 u H2 x2 r2 t2 q2 => ?_, lX.on hE x1⟩
  exact hR _ _ _ _ (x1.trans x2) r2 (.cons (t1.mn x2) t2) q2
theorem je_tup {es : List Expr} {k : Nat} {pos : Pos} {wa : WA1} (ha : JA X es wa) : JE X (.Tuple es k pos) (fun env S R E => wa env S (fun ts S1 => ts.length ≤ sizeLine ∧ R (.tup ts) S1) E) := fun W tk =>
  pe_imp (pe_tup (ha W tk)) fun σ H Q q => by
  obtain ⟨z, env, S, R, E, he, hr, hw, hR, hE⟩ := q
  refine ⟨z, env, S, _, E, he, hr, hw, fun x S1 v H1 x1 r1 t1 q1 => ?_, hE⟩
  exact ⟨by rw [t1.len]; exact q1.1, fun p n => (lQ.on hR x1).tup r1 t1 q1.2 n⟩
theorem je_lst {es : List Expr} {pos : Pos} {wa : WA1} (ha : JA X es wa) : JE X (.List es pos) (fun env S R E => wa env S (fun ts S1 => ts.length ≤ sizeLine ∧ ∀ p, S1 p = none → R (.ref p) (up S1 p (.lst ts))) E) := fun W tk =>
  pe_imp (pe_lst (ha W tk)) fun σ H Q q => by
  obtain ⟨z, env, S, R, E, he, hr, hw, hR, hE⟩ := q
  refine ⟨z, env, S, _, E, he, hr, hw, fun x S1 v H1 x1 r1 t1 q1 => ?_, hE⟩
  exact ⟨by rw [t1.len]; exact q1.1, fun p n => (lQ.on hR x1).lst r1 t1 q1.2 n⟩
theorem lQ.frz {K : PySem.W.Frag} {z : Addr → Prop} {H : Hp} {S : Sto} {R : RP} {Q : VK} (k : lQ K z H S R Q) (hr : HR K z H S) {x : T} {v : V} (t : RT K z H S x v) (q : frzT S x R) : Q v H := by
  unfold frzT at q
  split at q
  · split at q
    · rename_i e
      cases t
      obtain ⟨vs, h, rr⟩ := hr.lst e
      refine k _ _ _ _ Ext.rm hr.rm (.lst h ⟨rm_same, fun zz => ?_⟩ (rr.mn Ext.rm)) q
      obtain ⟨_, n⟩ := hr.hid _ zz
      rw [e] at n; cases n
    · rename_i e
      cases t
      obtain ⟨vs, h, he, rr⟩ := hr.dct e
      refine k _ _ _ _ Ext.rm hr.rm (.dct h ⟨rm_same, fun zz => ?_⟩ he (rr.mn Ext.rm)) q
      obtain ⟨_, n⟩ := hr.hid _ zz
      rw [e] at n; cases n
    · exact k.here hr t q
  · exact k.here hr t q
theorem je_frz {e : Expr} {wa : WE1} (ha : JE X e wa) : JE X e (fun env S R E => wa env S (fun x S1 => frzT S1 x R) E) := fun W tk =>
  pe_imp (ha W tk) fun σ H Q q => by
  obtain ⟨z, env, S, R, E, he, hr, hw, hR, hE⟩ := q
  exact ⟨z, env, S, _, E, he, hr, hw, fun x S1 v H1 x1 r1 t1 q1 => (lQ.on hR x1).frz r1 t1 q1, hE⟩
theorem je_ix {a b : Expr} {pos : Pos} {wa wb : WE1} (hs : isSlice b = false) (ha : JE X a wa) (hb : JE X b wb) : JE X (.Subscript a b pos) (fun env S R E => wa env S (fun x S1 => wb env S1 (fun y S2 => oIx x y S2 R) E) E) := fun W tk =>
  pe_imp (pe_ix ok_ix (ha W tk) (hb W tk) (by intro o i; cases b <;> first | rfl | cases hs)) fun σ H Q q => by
  obtain ⟨z, env, S, R, E, he, hr, hw, hR, hE⟩ := q
  refine ⟨z, env, S, _, E, he, hr, hw, fun x S1 v H1 x1 r1 t1 q1 => ?_, hE⟩
  refine ⟨z, env, S1, _, E, he.mn x1, r1, q1, fun y S2 u H2 x2 r2 t2 q2 => ?_, lX.on hE x1⟩
  exact ⟨z, x, y, S2, R, r2, t1.mn x2, t2, q2, lQ.on hR (x1.trans x2)⟩
/-- a slice's part -/
def JO (X : Cx) (o : Option Expr) (w : WA1) : Prop := ∀ W, Takes X W → PO X o (fun σ H Q => ∃ z env S R E, EnvR X.K z H S env σ ∧ HR X.K z H S ∧ w env S R E ∧ (∀ ts S' H', Ext H S H' S' → HR X.K z H' S' → R ts S' → ∃ i, slP ts = some i ∧ Q i H') ∧ lX X.K z H S E fun c d H' => W c d σ H')
theorem po_imp {o : Option Expr} {t t' : TO} (h : PO X o t) (i : ∀ σ H Q, t' σ H Q → t σ H Q) : PO X o t' := ⟨fun pins s σ H Q I q => h.run pins s σ H Q I (i σ H Q q)⟩
theorem jo_none : JO X none (fun _ S R _ => R [] S) := fun W tk => po_imp po_none fun σ H Q q => by
  obtain ⟨z, env, S, R, E, he, hr, hw, hR, hE⟩ := q
  obtain ⟨i, e, q⟩ := hR _ _ _ (Ext.refl _ _) hr hw
  cases e
  exact q
theorem jo_some {e : Expr} {wa : WE1} (ha : JE X e wa) : JO X (some e) (fun env S R E => wa env S (fun t S1 => R [t] S1) E) := fun W tk => po_imp (po_some (ha W tk)) fun σ H Q q => by
  obtain ⟨z, env, S, R, E, he, hr, hw, hR, hE⟩ := q
  refine ⟨z, env, S, _, E, he, hr, hw, fun x S1 v H1 x1 r1 t1 q1 => ?_, hE⟩
  obtain ⟨i, e, q⟩ := hR _ _ _ x1 r1 q1
  cases x with
  | int j => cases t1; cases e; exact ⟨_, rfl, q⟩
  | _ => cases e
theorem je_sl {a : Expr} {lo hi : Option Expr} {pos p2 : Pos} {wa : WE1} {wl wh : WA1} (ha : JE X a wa) (hl : JO X lo wl) (hh : JO X hi wh) :
    JE X (.Subscript a (.Slice lo hi none p2) pos) (fun env S R E => wa env S (fun x S1 => wl env S1 (fun l S2 => match slP l with
    | some i => wh env S2 (fun h S3 => match slP h with
      | some j => oSl x i j S3 R
      | none => False) E
    | none => False) E) E) := fun W tk =>
  pe_imp (pe_slice ok_sl (ha W tk) (hl W tk) (hh W tk)) fun σ H Q q => by
  obtain ⟨z, env, S, R, E, he, hr, hw, hR, hE⟩ := q
  refine ⟨z, env, S, _, E, he, hr, hw, fun x S1 v H1 x1 r1 t1 q1 => ?_, hE⟩
  refine ⟨z, env, S1, _, E, he.mn x1, r1, q1, fun l S2 H2 x2 r2 q2 => ?_, lX.on hE x1⟩
  split at q2
  · rename_i i ei
    refine ⟨i, ei, z, env, S2, _, E, he.mn (x1.trans x2), r2, q2, fun h S3 H3 x3 r3 q3 => ?_, lX.on hE (x1.trans x2)⟩
    split at q3
    · rename_i j ej
      exact ⟨j, ej, z, x, S3, R, r3, (t1.mn x2).mn x3, q3, lQ.on hR ((x1.trans x2).trans x3)⟩
    · exact q3.elim
  · exact q2.elim
theorem je_revl {e : Expr} {k : Nat} {p1 p2 p3 pos : Pos} {wa : WE1} (ha : JE X e wa) : JE X (.Subscript e (.Slice none none (some (.UnaryOp .USub (.Constant (.int 1) k p1) p2)) p3) pos) (fun env S R E => wa env S (fun x S1 => match x with
    | .tup ts => R (.tup ts.reverse) S1
    | x => match lstOf S1 x with
      | some ts => ∀ p, S1 p = none → R (.ref p) (up S1 p (.lst ts.reverse))
      | none => False) E) := fun W tk =>
  pe_imp (pe_revB (ha W tk)) fun σ H Q q => by
  obtain ⟨z, env, S, R, E, he, hr, hw, hR, hE⟩ := q
  refine ⟨z, env, S, _, E, he, hr, hw, fun x S1 v H1 x1 r1 t1 q1 => ?_, hE⟩
  split at q1
  · obtain ⟨a, vs, rfl, q, rr⟩ := t1.sqT
    exact ⟨a, vs, rfl, .inr ⟨q, fun p n => (lQ.on hR x1).tup r1 rr.rev q1 n⟩⟩
  · split at q1
    · rename_i es
      obtain ⟨a, vs, rfl, q, rr⟩ := lst_rel r1 t1 es
      exact ⟨a, vs, rfl, .inl ⟨SqL.of q, fun p n => (lQ.on hR x1).lst r1 rr.rev q1 n⟩⟩
    · exact q1.elim

/-! ### calls -/
theorem run_at {pins : List (Addr × Obj)} {σ : L2.St} {H : Hp} {s : Shared} {Q : VK} {us : List Value} {vs : List V} {W : WX} {sp : TSp} {f : Addr} {fd : FuncData} {ps : List Str} {k : Nat}
    (rm : Roomy X) (F : FnG X.prog X.w X.K X.mg X.base k f fd ps (lSp X.K sp)) (hr : Room k X.A) (hb : Binds X.K fd ps []) (tk : Takes X W) (I : Inv X pins σ H s) (r : Vals vs us) (h : lSp X.K sp vs H Q fun c d H' => W c d σ H') :
    wpAny (model X.prog X.w) X.A (call (.ref f) us) (EP X pins σ Q) X.xe s := by
  have l : us.length = ps.length := by rw [← r.length]; exact F.len _ _ _ _ h
  have b : BindsTo s fd ⟨us, []⟩ (ps.zip us) := by simpa using hb s us I.kIn (by simpa using l)
  refine wpAny_call (codeAny_mono (F.run X.A X.stack s H ⟨us, []⟩ us vs Q _ hr rm.gd I.env0 b r h) fun out s' ho => ?_)
  match out, ho with
  | .error e, ho => exact passAt tk σ pins H s e s' I ho
  | .ok (.ret u), ho => exact I.after ho
theorem je_call (C : CtxOk X G) {x : Str} {sp : TSp} {e : Expr} {es : List Expr} {p pos : Pos} {wa : WA1} (h : FnAt X x sp) (g : glB G.sc x = true) (st : (e :: es).all notStar = true) (ha : JA X (e :: es) wa) :
    JE X (.Call (.Name x p) (e :: es) [] pos) (fun env S R E => wa env S (fun ts S1 => sp ts S1 R E) E) := fun W tk => by
  obtain ⟨f, fd, ps, k, F, hr, hm, hk, hb⟩ := h
  obtain ⟨g1, g2, _⟩ := gl_of C g
  refine ⟨fun pins s σ H Q I q => wpAny_Call_Name_kw (ld_glob I g1 hm ?_ g2)⟩
  obtain ⟨z, env, S, R, E, he, hr2, hw, hR, hE⟩ := q
  have go : lA X.K W wa σ H fun vs H1 => lSp X.K sp vs H1 Q fun c d H' => W c d σ H' :=
    ⟨z, env, S, _, E, he, hr2, hw, fun ts S1 vs H1 x1 r1 t1 q1 => ⟨z, ts, S1, R, E, t1, r1, q1, lQ.on hR x1, lX.on hE x1⟩, hE⟩
  simp only [List.all_cons, Bool.and_eq_true] at st
  exact PySem.W.callWith_K (h₀ := X.base) I.ok.mod.kin hk (thn ((ha W tk).run pos pins s σ H _ I go) fun us s1 ⟨vs, H1, I1, rv, q1⟩ => ⟨I1.kIn, run_at C.rm F hr hb tk I1 rv q1⟩) (star_e st.1) (back_any st.2)
theorem je_call0 (C : CtxOk X G) {x : Str} {sp : TSp} {p pos : Pos} (h : FnAt X x sp) (g : glB G.sc x = true) : JE X (.Call (.Name x p) [] [] pos) (fun _ S R E => sp [] S R E) := fun W tk => by
  obtain ⟨f, fd, ps, k, F, hr, hm, hk, hb⟩ := h
  obtain ⟨g1, g2, _⟩ := gl_of C g
  refine ⟨fun pins s σ H Q I q => wpAny_Call_Name_kw (ld_glob I g1 hm ?_ g2)⟩
  obtain ⟨z, env, S, R, E, he, hr2, hw, hR, hE⟩ := q
  exact PySem.W.callWith_K0 I.kIn hk (run_at C.rm F hr hb tk I .nil ⟨z, [], S, R, E, .nil, hr2, hw, hR, hE⟩)
theorem bt_of (C : CtxOk X G) {x : Str} (h : btB G x = true) : Gl X x ∧ X.mg x = none ∧ (x == ("__debug__" : Str)) = false ∧ x ≠ "__name__" := by
  unfold btB at h
  simp only [Bool.and_eq_true, decide_eq_true_eq] at h
  obtain ⟨a, b, c⟩ := gl_of C h.1
  exact ⟨a, C.bt x h.2, b, c⟩
theorem je_oc {ex : Expr} {es : List Expr} {wa : WA1} {o : OC} {r : List V → Hp → VK → Prop} (ha : JA X es wa) (p : ∀ t, PA X es t → PE X ex (tCB (lOC X.K o) t)) : JE X ex (fun env S R E => wa env S (fun ts S1 => o ts S1 R) E) := fun W tk =>
  pe_imp (p _ (ha W tk)) fun σ H Q q => by
  obtain ⟨z, env, S, R, E, he, hr, hw, hR, hE⟩ := q
  exact ⟨z, env, S, _, E, he, hr, hw, fun x S1 v H1 x1 r1 t1 q1 => ⟨z, x, S1, R, r1, t1, q1, lQ.on hR x1⟩, hE⟩
theorem je_blt (C : CtxOk X G) {b : Bf} {x : Str} {e : Expr} {es : List Expr} {p pos : Pos} {wa : WA1} (hx : x = b.name) (g : (match b with | .gcd => glB G.sc x && decide ((x, "math.gcd") ∈ G.bfs) | _ => btB G x) = true) (hc : (!b.calm || G.calm) = true)
    (st : (e :: es).all notStar = true) (ha : JA X (e :: es) wa) : JE X (.Call (.Name x p) (e :: es) [] pos) (fun env S R E => wa env S (fun ts S1 => b.sem ts S1 R) E) := by
  simp only [List.all_cons, Bool.and_eq_true] at st
  have s1 : starEach (e :: es) X.env = (false, eval e X.env) :: starEach es X.env := star_e st.1
  have s2 := back_any (pos := pos) (env := X.env) st.2
  have cb : ∀ {id : String} {o : OC}, btB G x = true → bootBuiltins x = some (.builtin id) → CallR X (.builtin id) (lOC X.K o) → JE X (.Call (.Name x p) (e :: es) [] pos) (fun env S R E => wa env S (fun ts S1 => o ts S1 R) E) := fun {id o} g hv hr => by
    obtain ⟨g1, g2, g3, g4⟩ := bt_of C g
    exact je_oc (r := fun _ _ _ => True) ha fun t h => pe_callB hr g1 g2 hv h g4 g3 s1 s2
  have ct : ∀ {T : String} {o : OC}, btB G x = true → bootBuiltins x = some (.type T) → CallR X (.type T) (lOC X.K o) → JE X (.Call (.Name x p) (e :: es) [] pos) (fun env S R E => wa env S (fun ts S1 => o ts S1 R) E) := fun {T o} g hv hr => by
    obtain ⟨g1, g2, g3, g4⟩ := bt_of C g
    exact je_oc (r := fun _ _ _ => True) ha fun t h => pe_callTy hr g1 g2 hv h g4 g3 s1 s2
  have cc : b.calm = true → X.calm = true := fun h => by rw [h] at hc; rw [C.calm]; simpa using hc
  subst hx
  cases b with
  | len => exact cb g (by decide +kernel) ok_len
  | abs => exact cb g (by decide +kernel) ok_abs
  | int => exact ct g (by decide +kernel) ok_int1
  | tuple => exact ct g (by decide +kernel) ok_tup
  | list => exact ct g (by decide +kernel) ok_list
  | all => exact cb g (by decide +kernel) (ok_all (cc rfl))
  | any => exact cb g (by decide +kernel) (ok_any (cc rfl))
  | sum => exact cb g (by decide +kernel) (ok_sum (cc rfl))
  | max => exact cb g (by decide +kernel) (ok_max (cc rfl))
  | repr => exact cb g (by decide +kernel) (ok_repr C.rm)
  | gcd =>
    simp only [Bool.and_eq_true, decide_eq_true_eq] at g
    obtain ⟨g1, g2, _⟩ := gl_of C g.1
    exact je_oc (r := fun _ _ _ => True) ha fun t h => pe_callBfun ok_gcd g1 (C.bf _ _ g.2) h g2 s1 s2
theorem boot_ty (y : Ty) (h : y ≠ .none) : bootBuiltins (Str.ofString y.name) = some (.type y.name) := by
  cases y <;> first | exact absurd rfl h | decide +kernel
theorem je_isi (C : CtxOk X G) {x c : Str} {e : Expr} {y : Ty} {p p2 pos : Pos} {wa : WE1} (hx : x = ("isinstance" : Str)) (g : btB G x = true) (hy : c = Str.ofString y.name) (hn : y ≠ .none) (g2 : btB G c = true) (st : notStar e = true) (ha : JE X e wa) :
    JE X (.Call (.Name x p) [e, .Name c p2] [] pos) (fun env S R E => wa env S (fun x S1 => oIsi y x S1 R) E) := fun W tk => by
  obtain ⟨a1, a2, a3, a4⟩ := bt_of C g
  obtain ⟨b1, b2, b3, b4⟩ := bt_of C g2
  subst hx
  have pc : PE X (.Name c p2) (tC (.ty y.name)) := pe_bltn b1 b2 (by rw [hy]; exact boot_ty y hn) rfl b4 b3
  refine pe_imp (pe_callB (ok_isi y) a1 a2 (by decide +kernel) (pa_cons (ha W tk) (pa_cons pc pa_nil) (star_e st)) a4 a3 (star_e st) (back_any (es := [.Name c p2]) rfl)) fun σ H Q q => ?_
  obtain ⟨z, env, S, R, E, he, hr, hw, hR, hE⟩ := q
  exact ⟨z, env, S, _, E, he, hr, hw, fun x S1 v H1 x1 r1 t1 q1 => ⟨v, rfl, z, x, S1, R, r1, t1, q1, lQ.on hR x1⟩, hE⟩
/-! ### isinstance with a tuple of types -/
theorem tys_rel {K : PySem.W.Frag} {z : Addr → Prop} {H : Hp} {S : Sto} : ∀ {ys : List Ty} {vs : List V}, RTs K z H S (ys.map fun y => T.ty y.name) vs → vs = ys.map fun y => V.ty y.name
  | [], _, h => by cases h; rfl
  | y :: ys, _, h => by
    cases h with
    | cons h r => cases h; rw [tys_rel r]; rfl
theorem tys_val : ∀ {ys : List Ty} {us : List Value}, Vals (ys.map fun y => V.ty y.name) us → us = ys.map fun y => Value.type y.name
  | [], _, h => by cases h; rfl
  | y :: ys, _, h => by
    cases h with
    | cons h r =>
      have e : _ = _ := h
      rw [tys_val r, e]
      rfl
def oIsT (ys : List Ty) : OC := fun ts S R => match ts with
  | [x, .tup us] => us = (ys.map fun y => T.ty y.name) ∧ oIsiT ys x S R
  | _ => False
theorem ok_isT (ys : List Ty) : CallR X (.builtin "isinstance") (lOC X.K (oIsT ys)) := by
  intro pins s σ H vs us Q I r h
  obtain ⟨z, ts, S, R, hr, rr, ho, k⟩ := h
  unfold oIsT at ho
  split at ho
  · obtain ⟨rfl, t, e, ho⟩ := ho
    cases rr with
    | cons rx r2 =>
      cases r2 with
      | cons rt r3 =>
        cases r3
        have ty := typ_rel hr rx e
        cases rt with
        | tup h n q =>
          have := tys_rel q
          subst this
          exact call_isiT pins s σ H _ us Q I r ⟨_, _, _, _, _, _, rfl, h, cls_all ys, ty, kit_any t ys, k.here hr (.bl _) ho⟩
        | tupK h q =>
          have := tys_rel q
          subst this
          obtain ⟨⟨oc, od, dt, sl⟩, its, n, h1, h2, h3, h4, h5⟩ := h
          simp only at h2 h3
          subst h2 h3
          have e2 := tys_val h5
          refine call_isiK pins s σ H _ us Q I r ⟨_, _, od, _, n, sl, _, _, rfl, ?_, ty, kit_any t ys, k.here hr (.bl _) ho⟩
          rw [← e2]; exact h1
  · exact ho.elim
theorem ja_tys (C : CtxOk X G) : ∀ {es : List Expr} {ys : List Ty}, tyNames G es ys = true → JA X es (fun _ S R _ => R (ys.map fun y => T.ty y.name) S)
  | [], [], _ => ja_nil
  | e :: es, y :: ys, h => by
    cases e <;> simp only [tyNames, Bool.false_eq_true] at h
    rename_i c p2
    simp only [Bool.and_eq_true, decide_eq_true_eq] at h
    obtain ⟨⟨⟨hy, hn⟩, g2⟩, h2⟩ := h
    obtain ⟨b1, b2, b3, b4⟩ := bt_of C g2
    have pc : PE X (.Name c p2) (tC (.ty y.name)) := pe_bltn b1 b2 (by rw [hy]; exact boot_ty y hn) rfl b4 b3
    exact ja_cons rfl (je_c pc fun _ _ _ => .ty _) (ja_tys C h2)
  | [], _ :: _, h => by cases h
  | e :: es, [], h => by cases e <;> cases h
theorem je_isT (C : CtxOk X G) {x : Str} {e : Expr} {es : List Expr} {kk : Nat} {tp : Pos} {ys : List Ty} {p pos : Pos} {wa : WE1} (hx : x = ("isinstance" : Str)) (g : btB G x = true) (hy : tyNames G es ys = true) (hl : ys.length ≤ 9) (st : notStar e = true) (ha : JE X e wa) :
    JE X (.Call (.Name x p) [e, .Tuple es kk tp] [] pos) (fun env S R E => wa env S (fun x S1 => oIsiT ys x S1 R) E) := by
  obtain ⟨a1, a2, a3, a4⟩ := bt_of C g
  subst hx
  have key : JE X (.Call (.Name "isinstance" p) [e, .Tuple es kk tp] [] pos) (fun env S R E => wa env S (fun t S1 => (fun (_ : Env) S R (_ : XP) => (ys.map fun y => T.ty y.name).length ≤ sizeLine ∧ R (.tup (ys.map fun y => T.ty y.name)) S) env S1 (fun u S2 => oIsT ys [t, u] S2 R) E) E) :=
    je_oc (r := fun _ _ _ => True) (ja_cons st ha (ja_cons rfl (je_tup (ja_tys C hy)) ja_nil)) fun t h => pe_callB (ok_isT ys) a1 a2 (by decide +kernel) h a4 a3 (star_e st) (back_any (es := [.Tuple es kk tp]) rfl)
  have e : ∀ (R : RP), (fun x S1 => oIsiT ys x S1 R) = fun t S1 => (ys.map fun y => T.ty y.name).length ≤ sizeLine ∧ oIsT ys [t, .tup (ys.map fun y => T.ty y.name)] S1 R := fun R => by
    funext t S1
    refine propext ⟨fun q => ⟨by rw [List.length_map]; exact Nat.le_trans hl (by decide), rfl, q⟩, fun q => q.2.2⟩
  simp only [e]
  exact key
theorem attr_base {o : Expr} {f : Str} {env : PySem.Env} (h : plainRecv o = true) : attributeBase o f env (eval o env) = eval o env := by
  cases o <;> first | rfl | cases h
theorem ty_l {K : PySem.W.Frag} {z : Addr → Prop} {H : Hp} {S : Sto} (hr : HR K z H S) {x : T} {v : V} (t : RT K z H S x v) (h : isL S x) : tyV K "list" v H := by
  obtain ⟨a, ts, rfl, e⟩ := h
  cases t
  obtain ⟨vs, q, _⟩ := hr.lst e
  exact .inl ⟨rfl, vs, SqL.of q⟩
theorem je_mth {m : Mt} {o : Expr} {f : Str} {e : Expr} {es : List Expr} {apos cpos : Pos} {wo : WE1} {wa : WA1} (hf : f = m.name) (pr : plainRecv o = true) (hl : (apos.endLine == cpos.line) = true) (few : (e :: es).length < 9) (st : (e :: es).all notStar = true)
    (ho : JE X o wo) (ha : JA X (e :: es) wa) : JE X (.Call (.Attribute o f apos) (e :: es) [] cpos) (fun env S R E => wo env S (fun x S1 => isL S1 x ∧ wa env S1 (fun ts S2 => m.sem x ts S2 R) E) E) := fun W tk => by
  have hw : ((backTo cpos (starEach (e :: es) X.env)).all (fun x => !x.1) && (backToKw cpos (keywordEach [] X.env)).all (fun x => x.1.isSome) && decide ((e :: es).length + ([] : List Keyword).length + (if ([] : List Keyword).isEmpty then 0 else 1) < 30)) = true := by
    rw [back_all st]
    have : (e :: es).length + 0 + 0 < 30 := by omega
    simp only [Bool.true_and]
    refine Bool.and_eq_true_iff.mpr ⟨rfl, decide_eq_true this⟩
  simp only [List.all_cons, Bool.and_eq_true] at st
  have fin : ∀ {id : String} (r : MtR X id (lOM X.K m.sem)) (slot : Slot "list" m.name id) (hty : typeOf (.builtin id) = pure (.type "method_descriptor")), PE X (.Call (.Attribute o f apos) (e :: es) [] cpos) (lE X.K W (fun env S R E => wo env S (fun x S1 => isL S1 x ∧ wa env S1 (fun ts S2 => m.sem x ts S2 R) E) E)) := fun {id} r slot hty => by
    subst hf
    refine pe_imp (pe_bm PySem.F.plainAttrs_list slot hty r (ho W tk) (ha W tk) (attr_base pr) hw hl (star_e st.1) (back_any st.2)) fun σ H Q q => ?_
    obtain ⟨z, env, S, R, E, he, hr, hw, hR, hE⟩ := q
    refine ⟨z, env, S, _, E, he, hr, hw, fun x S1 v H1 x1 r1 t1 q1 => ⟨ty_l r1 t1 q1.1, ?_⟩, hE⟩
    exact ⟨z, env, S1, _, E, he.mn x1, r1, q1.2, fun ts S2 vs H2 x2 r2 t2 q2 => ⟨z, x, ts, S2, R, r2, t1.mn x2, t2, q2, lQ.on hR (x1.trans x2)⟩, lX.on hE x1⟩
  cases m with
  | append => exact fin ok_append PySem.F.slot_list_append PySem.F.type_list_append
  | pop => exact fin ok_pop PySem.F.slot_list_pop PySem.F.type_list_pop
theorem je_mth0 {m : Mt} {o : Expr} {f : Str} {apos cpos : Pos} {wo : WE1} (hf : f = m.name) (pr : plainRecv o = true) (hl : (apos.endLine == cpos.line) = true)
    (ho : JE X o wo) : JE X (.Call (.Attribute o f apos) [] [] cpos) (fun env S R E => wo env S (fun x S1 => isL S1 x ∧ m.sem x [] S1 R) E) := fun W tk => by
  have fin : ∀ {id : String} (r : MtR X id (lOM X.K m.sem)) (slot : Slot "list" m.name id) (hty : typeOf (.builtin id) = pure (.type "method_descriptor")), PE X (.Call (.Attribute o f apos) [] [] cpos) (lE X.K W (fun env S R E => wo env S (fun x S1 => isL S1 x ∧ m.sem x [] S1 R) E)) := fun {id} r slot hty => by
    subst hf
    refine pe_imp (pe_bm0 PySem.F.plainAttrs_list slot hty r (ho W tk) (attr_base pr) hl) fun σ H Q q => ?_
    obtain ⟨z, env, S, R, E, he, hr, hw, hR, hE⟩ := q
    exact ⟨z, env, S, _, E, he, hr, hw, fun x S1 v H1 x1 r1 t1 q1 => ⟨ty_l r1 t1 q1.1, z, x, [], S1, R, r1, t1, .nil, q1.2, lQ.on hR x1⟩, hE⟩
  cases m with
  | append => exact fin ok_append PySem.F.slot_list_append PySem.F.type_list_append
  | pop => exact fin ok_pop PySem.F.slot_list_pop PySem.F.type_list_pop
theorem dl_rel {K : PySem.W.Frag} {z : Addr → Prop} {H : Hp} {S : Sto} {k : Key} {t : T} : ∀ {kvs : List (Key × T)} {kvs' : List (Key × V)}, kvs.map (·.1) = kvs'.map (·.1) → RTs K z H S (kvs.map (·.2)) (kvs'.map (·.2)) → dlook kvs k = some t → ∃ v, valV kvs' k = some v ∧ RT K z H S t v
  | [], [], _, _, e => by cases e
  | [], _ :: _, h, _, _ => by simp at h
  | _ :: _, [], h, _, _ => by simp at h
  | (a, u) :: l, (b, w) :: m, h, r, e => by
    simp only [List.map_cons, List.cons.injEq] at h
    cases r with
    | cons ru rr =>
      by_cases c : a = k
      · have : t = u := by simp [dlook, c] at e; exact e.symm
        subst this
        exact ⟨w, valV_pos (by rw [← c]; exact h.1.symm), ru⟩
      · have e' : dlook l k = some t := by simpa [dlook, c] using e
        obtain ⟨v, h1, h2⟩ := dl_rel h.2 rr e'
        exact ⟨v, by rw [valV_neg (by intro q; exact c (h.1.trans q))]; exact h1, h2⟩
theorem je_dget (g : Roomy X) {o : Expr} {k : Str} {n : Nat} {p pos : Pos} {wo : WE1} (ho : JE X o wo) : JE X (.Subscript o (.Constant (.str k) n p) pos) (fun env S R E => wo env S (fun x S1 => match x with
    | .ref a => match S1 a with
      | some (.dct kvs) => match dlook kvs (.inr k) with
        | some t => R t S1
        | none => False
      | _ => False
    | _ => False) E) := fun W tk =>
  pe_imp (pe_dget (by have := g.un; omega) (ho W tk) pe_str (by intro _ _; rfl)) fun σ H Q q => by
  obtain ⟨z, env, S, R, E, he, hr, hw, hR, hE⟩ := q
  refine ⟨z, env, S, _, E, he, hr, hw, fun x S1 v H1 x1 r1 t1 q1 => ?_, hE⟩
  split at q1
  · split at q1
    · rename_i e
      split at q1
      · rename_i t et
        cases t1
        obtain ⟨kvs', h1, h2, h3⟩ := r1.dct e
        obtain ⟨w, h4, h5⟩ := dl_rel h2 h3 et
        exact ⟨_, w, rfl, h4 ▸ DGet.k (k := Sum.inr k) h1, hR _ _ _ _ x1 r1 h5 q1⟩
      · exact q1.elim
    · exact q1.elim
  · exact q1.elim
theorem je_dnew {pos : Pos} : JE X (.Dict [] [] pos) (fun _ S R _ => ∀ p, S p = none → R (.ref p) (up S p (.dct []))) := fun W tk =>
  pe_imp pe_dnewK fun σ H Q q => by
  obtain ⟨z, env, S, R, E, he, hr, hw, hR, hE⟩ := q
  exact fun p n => hR _ _ _ _ (Ext.newS n) (hr.newS (c := .dct []) n ⟨[], upd_same, rfl, .nil⟩) (.ref p) (hw p (hr.non n))
theorem dp_rel {K : PySem.W.Frag} {z : Addr → Prop} {H : Hp} {S : Sto} {k : Key} {t : T} {v : V} (rt : RT K z H S t v) : ∀ {kvs : List (Key × T)} {kvs' : List (Key × V)}, kvs.map (·.1) = kvs'.map (·.1) → RTs K z H S (kvs.map (·.2)) (kvs'.map (·.2)) →
    (dput kvs k t).map (·.1) = (putK kvs' k v).map (·.1) ∧ RTs K z H S ((dput kvs k t).map (·.2)) ((putK kvs' k v).map (·.2)) := by
  intro kvs kvs' h r
  have hany : (kvs.any fun kv => decide (kv.1 = k)) = (kvs'.any fun kv => decide (kv.1 = k)) := by
    have e1 : (kvs.any fun kv => decide (kv.1 = k)) = ((kvs.map (·.1)).any fun x => decide (x = k)) := by rw [List.any_map]; rfl
    have e2 : (kvs'.any fun kv => decide (kv.1 = k)) = ((kvs'.map (·.1)).any fun x => decide (x = k)) := by rw [List.any_map]; rfl
    rw [e1, e2, h]
  unfold dput putK
  rw [hany]
  split
  · rename_i ha
    clear ha hany
    induction kvs generalizing kvs' with
    | nil =>
      cases kvs' with
      | nil => exact ⟨rfl, .nil⟩
      | cons _ _ => simp at h
    | cons a l ih =>
      cases kvs' with
      | nil => simp at h
      | cons b m =>
        simp only [List.map_cons, List.cons.injEq] at h
        cases r with
        | cons ra rr =>
          obtain ⟨i1, i2⟩ := ih h.2 rr
          simp only [List.map_cons]
          by_cases c : a.1 = k
          · have c' : b.1 = k := h.1.symm.trans c
            rw [if_pos c, if_pos c']
            exact ⟨by simp [h.1, i1], .cons rt i2⟩
          · have c' : ¬ b.1 = k := fun q => c (h.1.trans q)
            rw [if_neg c, if_neg c']
            exact ⟨by simp [h.1, i1], .cons ra i2⟩
  · exact ⟨by simp [h], by simpa using r.app (.cons rt .nil)⟩
theorem dps_rel {K : PySem.W.Frag} {z : Addr → Prop} {H : Hp} {S : Sto} : ∀ {ks : List Str} {ts : List T} {vs : List V} {kvs : List (Key × T)} {kvs' : List (Key × V)}, RTs K z H S ts vs → vs.length = ks.length → kvs.map (·.1) = kvs'.map (·.1) → RTs K z H S (kvs.map (·.2)) (kvs'.map (·.2)) →
    (dputs kvs ks ts).map (·.1) = (mergeK kvs' ((ks.zip vs).map fun kv => (Sum.inr kv.1, kv.2))).map (·.1) ∧ RTs K z H S ((dputs kvs ks ts).map (·.2)) ((mergeK kvs' ((ks.zip vs).map fun kv => (Sum.inr kv.1, kv.2))).map (·.2)) := by
  intro ks
  induction ks with
  | nil => intro ts vs kvs kvs' r l h1 h2; exact ⟨h1, h2⟩
  | cons k ks ih =>
    intro ts vs kvs kvs' r l h1 h2
    cases r with
    | nil => cases l
    | cons rt rr =>
      obtain ⟨d1, d2⟩ := dp_rel (k := Sum.inr k) rt h1 h2
      exact ih rr (by simpa using l) d1 d2
def JP (X : Cx) (values : List Expr) (w : WA1) : Prop := ∀ (pos : Pos) (keys : List (Option Expr)) (ks : List Str), keysAre keys ks = true → keys.length = values.length → ∀ W, Takes X W → ∃ trs, PPs X pos keys values trs ∧
  ∀ σ H (Q : List (V × V) → Hp → Prop), (lA X.K W w σ H fun vs H2 => vs.length = ks.length → Q ((ks.zip vs).map fun kv => (.str kv.1, kv.2)) H2) → tPairs trs σ H Q
theorem keysAre_len : ∀ {keys : List (Option Expr)} {ks : List Str}, keysAre keys ks = true → keys.length = ks.length ∧ keys.all (·.isSome) = true
  | [], [], _ => ⟨rfl, rfl⟩
  | [], _ :: _, h => by cases h
  | some (.Constant (.str y) _ _) :: r, k :: ks, h => by
    simp only [keysAre, Bool.and_eq_true] at h
    obtain ⟨h1, h2⟩ := keysAre_len h.2
    exact ⟨by simp [h1], by simp [h2]⟩
  | some e :: r, [], h => by cases e <;> first | cases h | (rename_i c _ _; cases c <;> cases h)
  | none :: r, _, h => by simp [keysAre] at h
  | some e :: r, k :: ks, h => by
    unfold keysAre at h
    split at h
    · rename_i q _; cases q
    · rename_i q1 q2; cases q1; cases q2
      simp only [Bool.and_eq_true] at h
      obtain ⟨h1, h2⟩ := keysAre_len h.2
      exact ⟨by simp [h1], by simp [h2]⟩
    · cases h
theorem jp_nil : JP X [] (fun _ S R _ => R [] S) := fun pos keys ks hk hl W tk => by
  cases keys with
  | cons a b => cases hl
  | nil =>
    refine ⟨[], pps_nil, fun σ H Q q => ?_⟩
    obtain ⟨z, env, S, R, E, he, hr, hw, hR, hE⟩ := q
    have := hR _ _ _ _ (Ext.refl _ _) hr .nil hw
    cases ks with
    | nil => exact this rfl
    | cons a b => cases hk
theorem jp_cons {e : Expr} {es : List Expr} {wa : WE1} {wb : WA1} (ha : JE X e wa) (hb : JP X es wb) : JP X (e :: es) (fun env S R E => wa env S (fun t S1 => wb env S1 (fun ts S2 => R (t :: ts) S2) E) E) := fun pos keys ks hk hl W tk => by
  unfold keysAre at hk
  split at hk
  · cases hl
  · rename_i y n p r k ks
    simp only [Bool.and_eq_true, decide_eq_true_eq] at hk
    obtain ⟨rfl, hk⟩ := hk
    obtain ⟨trs, h1, h2⟩ := hb pos r ks hk (by simpa using hl) W tk
    refine ⟨_, pps_cons pe_str (ha W tk) h1, fun σ H Q q => ?_⟩
    obtain ⟨z, env, S, R, E, he, hr, hw, hR, hE⟩ := q
    refine ⟨z, env, S, _, E, he, hr, hw, fun x S1 v H1 x1 r1 t1 q1 => ?_, hE⟩
    refine h2 _ _ _ ⟨z, env, S1, _, E, he.mn x1, r1, q1, fun ts S2 vs H2 x2 r2 t2 q2 => ?_, lX.on hE x1⟩
    intro l
    exact hR _ _ _ _ (x1.trans x2) r2 (.cons (t1.mn x2) t2) q2 (by simp [l])
  · cases hk
theorem je_ddis {keys : List (Option Expr)} {es : List Expr} {ks : List Str} {pos : Pos} {wa : WA1} (ha : JP X es wa) (hk : keysAre keys ks = true) (hn : ks ≠ []) (h15 : ks.length ≤ 15) (hl : keys.length = es.length) :
    JE X (.Dict keys es pos) (fun env S R E => ∀ p, S p = none → wa env (up S p (.dct [])) (fun ts S2 => ts.length = ks.length ∧ S2 p = some (.dct []) ∧ R (.ref p) (up S2 p (.dct (dputs [] ks ts)))) E) := fun W tk => by
  obtain ⟨trs, h1, h2⟩ := ha pos keys ks hk hl W tk
  obtain ⟨k1, k2⟩ := keysAre_len hk
  refine pe_imp (pe_disp h1 k2 hl (fun e => hn (List.length_eq_zero_iff.mp (by rw [← k1, e]; rfl))) (by rw [k1]; exact h15)) fun σ H Q q => ?_
  obtain ⟨z, env, S, R, E, he, hr, hw, hR, hE⟩ := q
  intro p n
  refine h2 _ _ _ ⟨z, env, up S p (.dct []), _, E, he.mn (Ext.newS n), hr.newS (c := .dct []) n ⟨[], upd_same, rfl, .nil⟩, hw p (hr.non n), fun ts S2 vs H2 x2 r2 t2 q2 => ?_, lX.on hE (Ext.newS n)⟩
  intro l
  obtain ⟨q3, q4, q5⟩ := q2
  obtain ⟨kvs', e1, e2, e3⟩ := r2.dct q4
  cases kvs' with
  | cons a b => cases e2
  | nil =>
    refine ⟨e1, (ks.zip vs).map fun kv => (Sum.inr kv.1, kv.2), by simp [kV, Function.comp_def], by simp; omega, ?_⟩
    obtain ⟨d1, d2⟩ := dps_rel (kvs := []) (kvs' := []) t2 l rfl .nil
    have x4 := Ext.write (H := H2) (o := .dK (mergeK [] ((ks.zip vs).map fun kv => (Sum.inr kv.1, kv.2)))) (c' := .dct (dputs [] ks ts)) q4
    exact hR _ _ _ _ ((Ext.newS n).trans (x2.trans x4)) (r2.write q4 ⟨_, upd_same, d1, d2.mn x4⟩) (.ref p) q5
end
end TP

set_option maxHeartbeats 2000000
namespace TP
open PySem PySem.Spec PyProof.Rows L2

/-- what is frozen stays so, zones told -/
def Rl (z : Addr → Prop) (H : Hp) (S : Sto) (z' : Addr → Prop) (H' : Hp) (S' : Sto) : Prop := ∀ a o, H a = some o → S a = none ∧ ¬ z a → H' a = some o ∧ S' a = none ∧ ¬ z' a
section
variable {K : PySem.W.Frag} {z z' z2 : Addr → Prop} {H H' H2 : Hp} {S S' S2 : Sto}
theorem Rl.of (x : Ext H S H' S') : Rl z H S z H' S' := fun a o e n => ⟨(x a o e n.1).1, (x a o e n.1).2, n.2⟩
theorem Rl.trans (x : Rl z H S z' H' S') (y : Rl z' H' S' z2 H2 S2) : Rl z H S z2 H2 S2 := fun a o e n => let ⟨h1, h2, h3⟩ := x a o e n; y a o h1 ⟨h2, h3⟩
mutual
theorem RT.to (x : Rl z H S z' H' S') : ∀ (t : T) (v : V), RT K z H S t v → RT K z' H' S' t v
  | .non, _, h => by cases h; exact .non
  | .bl _, _, h => by cases h; exact .bl _
  | .int _, _, h => by cases h; exact .int _
  | .str _, _, h => by cases h; exact .str _
  | .ty _, _, h => by cases h; exact .ty _
  | .ref _, _, h => by cases h; exact .ref _
  | .tup ts, _, h => by
    cases h with
    | tup h n r => exact .tup (x _ _ h n).1 (x _ _ h n).2 (RTs.to x ts _ r)
    | tupK h r => exact .tupK h (RTs.to x ts _ r)
  | .lst ts, _, h => by
    cases h with
    | lst h n r => exact .lst (x _ _ h n).1 (x _ _ h n).2 (RTs.to x ts _ r)
  | .scr ts, _, h => by
    cases h with
    | scr h n r => exact .scr (x _ _ h n).1 (x _ _ h n).2 (RTs.to x ts _ r)
  | .dct ks ts, _, h => by
    cases h with
    | dct h n e r => exact .dct (x _ _ h n).1 (x _ _ h n).2 e (RTs.to x ts _ r)
theorem RTs.to (x : Rl z H S z' H' S') : ∀ (ts : List T) (vs : List V), RTs K z H S ts vs → RTs K z' H' S' ts vs
  | [], _, h => by cases h; exact .nil
  | t :: ts, _, h => by
    cases h with
    | cons h r => exact .cons (RT.to x t _ h) (RTs.to x ts _ r)
end
theorem EnvR.to {env : Env} {σ : L2.St} (x : Rl z H S z' H' S') (h : EnvR K z H S env σ) : EnvR K z' H' S' env σ := ⟨h.1, fun i t e => let ⟨v, q, r⟩ := h.2 i t e; ⟨v, q, RT.to x _ _ r⟩⟩
theorem CRel.to (x : Rl z H S z' H' S') {a : Addr} {c : Cell} (h : CRel K z H S a c) (e : H' a = H a) : CRel K z' H' S' a c := by
  cases c with
  | lst ts => obtain ⟨vs, h1, h2⟩ := h; exact ⟨vs, e.trans h1, RTs.to x _ _ h2⟩
  | dct kvs => obtain ⟨vs, h1, h2, h3⟩ := h; exact ⟨vs, e.trans h1, h2, RTs.to x _ _ h3⟩
  | ins C fs => obtain ⟨dx, vs, h1, h2, h3⟩ := h; exact ⟨dx, vs, e.trans h1, h2, RTs.to x _ _ h3⟩
/-- the zone with D in it -/
def zo (z : Addr → Prop) (D : Addr) : Addr → Prop := fun a => z a ∨ a = D
theorem Rl.hide {D : Addr} {o : HO} (n : H D = none) : Rl z H S (zo z D) (upd H D o) S := fun a u e m => by
  have ne : a ≠ D := fun q => by subst q; rw [n] at e; cases e
  exact ⟨by rw [upd_ne ne]; exact e, m.1, fun q => q.elim m.2 ne⟩
theorem Rl.chg {D : Addr} {o : HO} : Rl (zo z D) H S (zo z D) (upd H D o) S := fun a u e m => by
  have ne : a ≠ D := fun q => m.2 (.inr q)
  exact ⟨by rw [upd_ne ne]; exact e, m.1, m.2⟩
theorem Rl.show_ {D : Addr} {c : Cell} : Rl (zo z D) H S z H (up S D c) := fun a u e m => by
  have ne : a ≠ D := fun q => m.2 (.inr q)
  exact ⟨e, by rw [up_ne ne]; exact m.1, fun q => m.2 (.inl q)⟩
theorem HR.hide (h : HR K z H S) {D : Addr} {o : HO} (n : H D = none) : HR K (zo z D) (upd H D o) S := ⟨fun a c e => by
  have ne : a ≠ D := fun q => by subst q; rw [h.non n] at e; cases e
  exact (h.at_ a c e).to (Rl.hide n) (upd_ne ne), fun a q => by
  rcases q with q | q
  · obtain ⟨⟨u, e⟩, m⟩ := h.hid a q
    have ne : a ≠ D := fun w => by subst w; rw [n] at e; cases e
    exact ⟨⟨u, by rw [upd_ne ne]; exact e⟩, m⟩
  · subst q; exact ⟨⟨o, upd_same⟩, h.non n⟩⟩
theorem HR.chg (h : HR K (zo z D) H S) {o : HO} : HR K (zo z D) (upd H D o) S := ⟨fun a c e => by
  have ne : a ≠ D := fun q => by
    subst q
    have := (h.hid a (.inr rfl)).2
    rw [this] at e; cases e
  exact (h.at_ a c e).to Rl.chg (upd_ne ne), fun a q => by
  by_cases w : a = D
  · subst w; exact ⟨⟨o, upd_same⟩, (h.hid a q).2⟩
  · obtain ⟨⟨u, e⟩, m⟩ := h.hid a q
    exact ⟨⟨u, by rw [upd_ne w]; exact e⟩, m⟩⟩
theorem HR.show_ (h : HR K (zo z D) H S) {ts : List T} {vs : List V} (hz : ¬ z D) (e : H D = some (.lst vs)) (r : RTs K (zo z D) H S ts vs) : HR K z H (up S D (.lst ts)) := ⟨fun a c q => by
  by_cases w : a = D
  · subst w
    rw [up_same] at q; cases q
    exact ⟨vs, e, RTs.to Rl.show_ _ _ r⟩
  · rw [up_ne w] at q
    exact (h.at_ a c q).to Rl.show_ rfl, fun a q => by
  obtain ⟨u, m⟩ := h.hid a (.inl q)
  have ne : a ≠ D := fun w => by subst w; exact hz q
  exact ⟨u, by rw [up_ne ne]; exact m⟩⟩
end

/-! ### targets -/
def But (l : List Nat) (σ σ' : L2.St) : Prop := σ'.length = σ.length ∧ ∀ j, j ∉ l → σ'[j]? = σ[j]?
theorem But.refl {l : List Nat} {σ : L2.St} : But l σ σ := ⟨rfl, fun _ _ => rfl⟩
theorem But.trans {l m : List Nat} {σ σ' σ2 : L2.St} (a : But l σ σ') (b : But m σ' σ2) : But (l ++ m) σ σ2 := ⟨b.1.trans a.1, fun j h => (b.2 j fun q => h (List.mem_append_right _ q)).trans (a.2 j fun q => h (List.mem_append_left _ q))⟩
theorem wipe_get (σ : L2.St) (j : Nat) : ∀ vs : List Nat, (L2.wipe σ vs)[j]? = if j ∈ vs then (if j < σ.length then some none else none) else σ[j]?
  | [] => by simp [L2.wipe]
  | v :: vs => by
    show ((L2.wipe σ vs).set v none)[j]? = _
    rw [List.getElem?_set, wipe_get σ j vs, L2.wipe_length]
    by_cases h : v = j
    · subst h; simp
    · have : j ≠ v := fun e => h e.symm
      simp [h, this]
theorem But.wipe {l vs : List Nat} {σ σ' : L2.St} (b : But l σ σ') (h : ∀ j ∈ l, j ∈ vs) : L2.wipe σ' vs = L2.wipe σ vs := by
  apply List.ext_getElem?
  intro j
  rw [wipe_get, wipe_get, b.1]
  by_cases hj : j ∈ vs
  · simp [hj]
  · simp only [hj, if_false]
    exact b.2 j fun q => hj (h j q)
theorem wipe_wipe (σ : L2.St) (vs : List Nat) : L2.wipe (L2.wipe σ vs) vs = L2.wipe σ vs := by
  apply List.ext_getElem?
  intro j
  rw [wipe_get, wipe_get, L2.wipe_length]
  by_cases hj : j ∈ vs <;> simp [hj]
def lTg (K : PySem.W.Frag) (g : Tg) : TG := fun v σ H Q => ∃ z env S t k, EnvR K z H S env σ ∧ HR K z H S ∧ RT K z H S t v ∧ gT g t env S k ∧ ∀ env' σ', EnvR K z H S env' σ' → But (slotsG g) σ σ' → k env' → Q σ' H
def lTgs (K : PySem.W.Frag) (g : Tg) : TGs := fun vs σ H Q => ∃ z env S ts k, EnvR K z H S env σ ∧ HR K z H S ∧ RTs K z H S ts vs ∧ gTs g ts env S k ∧ ∀ env' σ', EnvR K z H S env' σ' → But (slotsG g) σ σ' → k env' → Q σ' H
theorem pg_imp {X : Cx} {e : Expr} {t t' : TG} (h : PG X e t) (i : ∀ v σ H Q, t' v σ H Q → t v σ H Q) : PG X e t' := ⟨fun pins s σ H v u Q I r q => h.run pins s σ H v u Q I r (i v σ H Q q)⟩
theorem pgs_imp {X : Cx} {e : List Expr} {t t' : TGs} (h : PGs X e t) (i : ∀ v σ H Q, t' v σ H Q → t v σ H Q) : PGs X e t' := ⟨fun pins s σ H v u Q I r q => h.run pins s σ H v u Q I r (i v σ H Q q)⟩
section
variable {X : Cx} {G : Gx}
theorem asg_e {e : Expr} {es : List Expr} {env : PySem.Env} (h : notStar e = true) : assignEach (e :: es) env = (false, assign e env) :: assignEach es env := by
  cases e <;> first | rfl | cases h
theorem asg_len {env : PySem.Env} : ∀ {g : Tg} {es : List Expr}, chkGs G g es = true → (assignEach es env).length = es.length ∧ (assignEach es env).findIdx? (·.1) = none
  | .nil, [], _ => ⟨rfl, rfl⟩
  | .cons a b, e :: es, h => by
    simp only [chkGs, Bool.and_eq_true] at h
    rw [asg_e h.1.1]
    obtain ⟨h1, h2⟩ := asg_len (env := env) h.2
    refine ⟨by simp [h1], ?_⟩
    rw [List.findIdx?_cons, if_neg (by simp), h2]
    rfl
  | .nil, _ :: _, h => by simp [chkGs] at h
  | .cons _ _, [], h => by simp [chkGs] at h
  | .nm _, _, h => by simp [chkGs] at h
  | .tup _, _, h => by simp [chkGs] at h
mutual
theorem gT_ex {S : Sto} : ∀ (g : Tg) (t : T) (env : Env) (k : Env → Prop), gT g t env S k → ∃ env', k env'
  | .nm i, t, env, k, h => ⟨_, h⟩
  | .tup l, t, env, k, h => by
    simp only [gT] at h
    split at h
    · exact gTs_ex l _ env k h
    · exact h.elim
  | .nil, _, _, _, h => by simp [gT] at h
  | .cons _ _, _, _, _, h => by simp [gT] at h
theorem gTs_ex {S : Sto} : ∀ (g : Tg) (ts : List T) (env : Env) (k : Env → Prop), gTs g ts env S k → ∃ env', k env'
  | .nil, [], env, k, h => ⟨env, h⟩
  | .cons a b, t :: ts, env, k, h => by
    simp only [gTs] at h
    obtain ⟨e1, h1⟩ := gT_ex a t env _ h
    exact gTs_ex b ts e1 k h1
  | .nil, _ :: _, _, _, h => by simp [gTs] at h
  | .cons _ _, [], _, _, h => by simp [gTs] at h
  | .nm _, _, _, _, h => by simp [gTs] at h
  | .tup _, _, _, _, h => by simp [gTs] at h
end
theorem gTs_len {S : Sto} : ∀ (g : Tg) (es : List Expr) (ts : List T) (env : Env) (k : Env → Prop), chkGs G g es = true → gTs g ts env S k → ts.length = es.length
  | .nil, [], [], _, _, _, _ => rfl
  | .nil, [], _ :: _, _, _, _, q => by simp [gTs] at q
  | .nil, _ :: _, _, _, _, h, _ => by simp [chkGs] at h
  | .cons a b, e :: es, t :: ts, env, k, h, q => by
    simp only [chkGs, Bool.and_eq_true] at h
    simp only [gTs] at q
    obtain ⟨e1, q1⟩ := gT_ex a t env _ q
    simp [gTs_len b es ts e1 k h.2 q1]
  | .cons _ _, [], _, _, _, h, _ => by simp [chkGs] at h
  | .cons _ _, _ :: _, [], _, _, _, q => by simp [gTs] at q
  | .nm _, _, _, _, _, h, _ => by simp [chkGs] at h
  | .tup _, _, _, _, _, h, _ => by simp [chkGs] at h
mutual
theorem pg_ok (C : CtxOk X G) : ∀ (g : Tg) (e : Expr), chkG G g e = true → PG X e (lTg X.K g)
  | .nm i, e, h => by
    cases e with
    | Name x p =>
      simp only [chkG, Bool.and_eq_true, Bool.or_eq_true, decide_eq_true_eq] at h
      have lc : Loc X.env.scope x := by
        show X.env.scope.names.lookup x = _ ∨ X.env.scope.names.lookup x = _
        rw [C.sc]
        rcases h.2 with q | q
        · exact .inl q
        · exact .inr q.2
      have fx : X.fn x = true ∨ X.env.scope.names.lookup x = some .local := by
        rw [C.sc]
        rcases h.2 with q | q
        · exact .inr q
        · exact .inl (C.cel x (by simpa using q.1))
      refine pg_imp (pg_name (i := i) (by rw [C.hN]; exact C.nd) (by rw [C.hN]; exact h.1) lc fx) fun v σ H Q q => ?_
      obtain ⟨z, env, S, t, k, he, hr, rt, hg, hk⟩ := q
      refine hk _ _ (he.set i rt) ⟨by simp, fun j hj => ?_⟩ hg
      have : i ≠ j := fun q => hj (by simp [slotsG, q])
      rw [List.getElem?_set_ne this]
    | _ => simp [chkG] at h
  | .tup l, e, h => by
    cases e with
    | Tuple es k p =>
      simp only [chkG, Bool.and_eq_true] at h
      have hc : X.calm = true := by rw [C.calm]; exact h.1
      have ih := pgs_ok C l es h.2
      obtain ⟨a1, a2⟩ := asg_len (env := X.env) h.2
      refine ⟨fun pins s σ H v u Q I r q => ?_⟩
      obtain ⟨z, env, S, t, k, he, hr, rt, hg, hk⟩ := q
      simp only [gT] at hg
      split at hg
      · rename_i ts es'
        obtain ⟨a, vs, rfl, q, rr⟩ := seq_rel hr rt es'
        have len := gTs_len l es ts env k h.2 hg
        have fin : lTgs X.K l vs σ H Q := ⟨z, env, S, ts, k, he, hr, rr, hg, hk⟩
        rcases q with q | q
        · exact (pg_lst (n := es.length) hc ih a1 a2).run pins s σ H _ u Q I r ⟨a, vs, rfl, q, by rw [rr.len, len], fin⟩
        · exact (pg_tup (n := es.length) hc ih a1 a2).run pins s σ H _ u Q I r ⟨a, vs, rfl, q, by rw [rr.len, len], fin⟩
      · exact hg.elim
    | _ => simp [chkG] at h
  | .nil, _, h => by simp [chkG] at h
  | .cons _ _, _, h => by simp [chkG] at h
theorem pgs_ok (C : CtxOk X G) : ∀ (g : Tg) (es : List Expr), chkGs G g es = true → PGs X es (lTgs X.K g)
  | .nil, [], h => pgs_imp pgs_nil fun vs σ H Q q => by
    obtain ⟨z, env, S, ts, k, he, hr, rt, hg, hk⟩ := q
    cases ts with
    | nil => cases rt; exact ⟨rfl, hk _ _ he But.refl hg⟩
    | cons _ _ => simp [gTs] at hg
  | .cons a b, e :: es, h => by
    simp only [chkGs, Bool.and_eq_true] at h
    refine pgs_imp (pgs_cons (pg_ok C a e h.1.2) (pgs_ok C b es h.2) (by rw [asg_e h.1.1]; rfl)) fun vs σ H Q q => ?_
    obtain ⟨z, env, S, ts, k, he, hr, rt, hg, hk⟩ := q
    cases ts with
    | nil => simp [gTs] at hg
    | cons t ts =>
      cases rt with
      | cons r rr =>
        simp only [gTs] at hg
        refine ⟨_, _, rfl, z, env, S, t, _, he, hr, r, hg, fun env' σ' he' bt hk' => ?_⟩
        exact ⟨z, env', S, ts, k, he', hr, rr, hk', fun env2 σ2 he2 bt2 hk2 => hk env2 σ2 he2 (bt.trans bt2) hk2⟩
  | .nil, _ :: _, h => by simp [chkGs] at h
  | .cons _ _, [], h => by simp [chkGs] at h
  | .nm _, _, h => by simp [chkGs] at h
  | .tup _, _, h => by simp [chkGs] at h
end

/-! ### what is walked -/
/-- J gives the trees ts one by one while gd holds, from where H0, S0 stand -/
def WalkT (K : PySem.W.Frag) (z : Addr → Prop) (H0 : Hp) (S0 : Sto) (J : It) (ts : List T) (gd : Sto → Prop) : Prop := ∃ Gd Y, Walk J ts.length Gd Y ∧ ∀ z' H S, Rl z H0 S0 z' H S → HR K z' H S → gd S → Gd H ∧
  ∀ i x H', i < ts.length → Y i H x H' → ∃ t, ts[i]? = some t ∧ Ext H S H' S ∧ HR K z' H' S ∧ RT K z' H' S t x
def lI (K : PySem.W.Frag) (W : WX) (w : WI1) : TI := fun σ H R => ∃ z env S RI E, EnvR K z H S env σ ∧ HR K z H S ∧ w env S RI E ∧
  (∀ ts gd S' H' J, Ext H S H' S' → HR K z H' S' → WalkT K z H' S' J ts gd → RI ts gd S' → R J H') ∧ lX K z H S E fun c d H' => W c d σ H'
def JI (X : Cx) (tg it : Expr) (w : WI1) : Prop := ∀ W, Takes X W → PI X tg it (lI X.K W w)
theorem pi_imp {tg it : Expr} {t t' : TI} (h : PI X tg it t) (i : ∀ σ H Q, t' σ H Q → t σ H Q) : PI X tg it t' := ⟨fun pins s σ H Q I q => h.run pins s σ H Q I (i σ H Q q)⟩
/-- a list that is read, or None -/
def lstL (S : Sto) : T → Option (List T)
  | .tup _ => none
  | x => seqOf S x
theorem lstL_rel {K : PySem.W.Frag} {z : Addr → Prop} {H : Hp} {S : Sto} (hr : HR K z H S) {t : T} {v : V} {ts : List T} (h : RT K z H S t v) (e : lstL S t = some ts) : ∃ a vs, v = .ref a ∧ SqL K H a vs ∧ RTs K z H S ts vs := by
  cases t with
  | tup us => cases e
  | lst us => cases e; obtain ⟨a, vs, e, q, r⟩ := h.sqL; exact ⟨a, vs, e, SqL.of q, r⟩
  | scr us => cases e; obtain ⟨a, vs, e, q, r⟩ := h.sqS; exact ⟨a, vs, e, q, r⟩
  | ref a =>
    cases h
    simp only [lstL, seqOf] at e
    split at e
    · rename_i us es
      cases e
      obtain ⟨vs, q, r⟩ := hr.lst es
      exact ⟨_, vs, rfl, SqL.of q, r⟩
    · cases e
  | _ => cases e
theorem lstL_of {S : Sto} {x : T} {ts : List T} (e : lstOf S x = some ts) : lstL S x = some ts := by
  cases x with
  | lst _ => exact e
  | ref a =>
    simp only [lstOf] at e
    exact e
  | _ => cases e
/-- the same list behind it -/
theorem lstL_on {S S' : Sto} {x : T} {ts : List T} (e : lstL S x = some ts) (g : gdOf S x S') : lstL S' x = some ts := by
  cases x with
  | ref a =>
    simp only [lstL, seqOf] at e
    split at e
    · rename_i us es
      cases e
      simp only [gdOf, es] at g
      simp only [lstL, seqOf, g]
    · cases e
  | _ => exact e
theorem list_at {K : PySem.W.Frag} {z : Addr → Prop} {H : Hp} {S : Sto} {a : Addr} {x : T} {ts : List T} (t : RT K z H S x (.ref a)) (e : lstL S x = some ts) {z' : Addr → Prop} {H' : Hp} {S' : Sto} (rl : Rl z H S z' H' S') (hr' : HR K z' H' S') (g : gdOf S x S') :
    ∃ vs, SqL K H' a vs ∧ RTs K z' H' S' ts vs := by
  obtain ⟨b, vs, eb, q, rr⟩ := lstL_rel hr' (RT.to rl _ _ t) (lstL_on e g)
  cases eb
  exact ⟨vs, q, rr⟩
end
end TP

set_option maxHeartbeats 2000000
namespace TP
open PySem PySem.Spec PyProof.Rows L2
section
variable {X : Cx} {G : Gx}
/-- a list walked: the one by its place a -/
theorem walk_lst {K : PySem.W.Frag} {z : Addr → Prop} {H : Hp} {S : Sto} {a : Addr} {x : T} {ts : List T} (t : RT K z H S x (.ref a)) (e : lstL S x = some ts) : WalkT K z H S (Itl K a) ts (gdOf S x) := by
  refine ⟨fun H' => ∃ vs, vs.length = ts.length ∧ SqL K H' a vs, (Itl K a).yld, ⟨fun i H' hi ⟨vs, l, q⟩ => ?_, fun H' ⟨vs, l, q⟩ => ⟨vs, q, by omega⟩, fun i H' y H2 hi _ yl => yl⟩, fun z' H' S' rl hr' g => ?_⟩
  · exact ⟨vs, vs[i]'(by omega), q, by simp⟩
  · obtain ⟨vs, q, rr⟩ := list_at t e rl hr' g
    refine ⟨⟨vs, rr.len, q⟩, fun i y H2 hi yl => ?_⟩
    obtain ⟨y1, y2⟩ := yl
    subst y1
    obtain ⟨t', e1, e2⟩ := rr.get (y2 vs q)
    exact ⟨t', e1, Ext.refl _ _, hr', e2⟩
theorem walk_tp {K : PySem.W.Frag} {z : Addr → Prop} {H : Hp} {S : Sto} {a : Addr} {ts : List T} (t : RT K z H S (.tup ts) (.ref a)) : WalkT K z H S (Itt K a) ts (fun _ => True) := by
  refine ⟨fun H' => ∃ vs, vs.length = ts.length ∧ SqT K H' a vs, (Itt K a).yld, ⟨fun i H' hi ⟨vs, l, q⟩ => ?_, fun H' ⟨vs, l, q⟩ => ⟨vs, q, by omega⟩, fun i H' y H2 hi _ yl => yl⟩, fun z' H' S' rl hr' g => ?_⟩
  · exact ⟨vs, vs[i]'(by omega), q, by simp⟩
  · obtain ⟨b, vs, eb, q, rr⟩ := (RT.to rl _ _ t).sqT
    cases eb
    refine ⟨⟨vs, rr.len, q⟩, fun i y H2 hi yl => ?_⟩
    obtain ⟨y1, y2⟩ := yl
    subst y1
    obtain ⟨t', e1, e2⟩ := rr.get (y2 vs q)
    exact ⟨t', e1, Ext.refl _ _, hr', e2⟩
theorem it_seq {pins : List (Addr × Obj)} {σ : L2.St} {H : Hp} {s : Shared} {a : Addr} {xs : List V} {tg : Expr} {R : It → Hp → Prop} (I : Inv X pins σ H s) : (SqL X.K H a xs → R (Itl X.K a) H → wpAny (model X.prog X.w) X.A (pyIter (.ref a)) (PIE X pins σ tg R) X.xe s) ∧
    (SqT X.K H a xs → R (Itt X.K a) H → wpAny (model X.prog X.w) X.A (pyIter (.ref a)) (PIE X pins σ tg R) X.xe s) := by
  have fp : ∀ b ∈ [s.heap.objs.size], FpOk X pins H b := fun b hb => by
    rw [List.mem_singleton] at hb
    subst hb
    exact I.fpOk (Nat.le_refl _) (I.hok.fresh (Nat.le_refl _))
  constructor
  · intro q r
    obtain ⟨its, _, pl, _⟩ := I.list q
    refine wpAny_pyIter_list pl.isList ⟨_, _, _, _, H, rfl, I.kept (t' := s.toks) ?_, turn_list a _, ?_, fp, r⟩
    · intro b o e; exact Heap.get?_push_of_some _ e
    · exact ⟨_, Heap.get?_push_size _ rfl, rfl, rfl⟩
  · intro q r
    obtain ⟨its, _, pl, _⟩ := I.tuple q
    refine wpAny_pyIter_tuple (show s.heap.IsTuple a its.toArray from pl) ⟨_, _, _, _, H, rfl, I.kept (t' := s.toks) ?_, turn_tuple a _, ?_, fp, r⟩
    · intro b o e; exact Heap.get?_push_of_some _ e
    · exact ⟨_, Heap.get?_push_size _ rfl, rfl, rfl⟩
theorem ji_a {tg e : Expr} {wa : WE1} (ha : JE X e wa) : JI X tg e (fun env S R E => wa env S (fun x S1 => match seqOf S1 x with
    | some ts => R ts (gdOf S1 x) S1
    | none => False) E) := fun W tk => by
  refine ⟨fun pins s σ H R I q => ?_⟩
  obtain ⟨z, env, S, RI, E, he, hr, hw, hR, hE⟩ := q
  refine thn ((ha W tk).run pins s σ H (fun v H1 => ∃ x S1, Ext H S H1 S1 ∧ HR X.K z H1 S1 ∧ RT X.K z H1 S1 x v ∧ (match seqOf S1 x with | some ts => RI ts (gdOf S1 x) S1 | none => False)) I ⟨z, env, S, _, E, he, hr, hw, fun x S1 v H1 x1 r1 t1 q1 => ⟨x, S1, x1, r1, t1, q1⟩, hE⟩) fun u s1 ⟨v, H1, I1, rv, x, S1, x1, r1, t1, q1⟩ => ?_
  split at q1
  · rename_i ts es
    obtain ⟨a, vs, rfl, q, rr⟩ := seq_rel r1 t1 es
    cases rv
    by_cases tt : ∃ us, x = .tup us
    · obtain ⟨us, rfl⟩ := tt
      cases es
      obtain ⟨b, ws, eb, qt, _⟩ := t1.sqT
      cases eb
      exact (it_seq (xs := ws) I1).2 qt (hR _ _ _ _ _ x1 r1 (walk_tp t1) q1)
    · have el : lstL S1 x = some ts := by
        cases x with
        | tup us => exact absurd ⟨us, rfl⟩ tt
        | _ => exact es
      obtain ⟨b, ws, eb, qt, _⟩ := lstL_rel r1 t1 el
      cases eb
      exact (it_seq (xs := ws) I1).1 qt (hR _ _ _ _ _ x1 r1 (walk_lst t1 el) q1)
  · exact q1.elim
theorem walk_rg {K : PySem.W.Frag} {z : Addr → Prop} {H : Hp} {S : Sto} {lo : Int} {n : Nat} : WalkT K z H S (Itr lo n) ((List.range n).map fun i => .int (lo + (i : Nat))) (fun _ => True) := by
  refine ⟨fun _ => True, YFn fun i => .int (lo + i), by simpa using walk_range (lo := lo) (n := n), fun z' H' S' rl hr' g => ⟨trivial, fun i x H2 hi y => ?_⟩⟩
  obtain ⟨y1, y2⟩ := y
  subst y1 y2
  simp only [List.length_map, List.length_range] at hi
  exact ⟨.int (lo + i), by simp [hi], Ext.refl _ _, hr', .int _⟩
theorem ji_r1 (C : CtxOk X G) {tg e : Expr} {x : Str} {p pos : Pos} {wa : WE1} (hx : x = ("range" : Str)) (g : btB G x = true) (st : notStar e = true) (ha : JE X e wa) : JI X tg (.Call (.Name x p) [e] [] pos) (fun env S R E => wa env S (fun x S1 => match x with
    | .int j => (-(2 ^ 62) ≤ j ∧ j < 2 ^ 62) ∧ R ((List.range j.toNat).map fun i => .int (i : Nat)) (fun _ => True) S1
    | _ => False) E) := fun W tk => by
  subst hx
  obtain ⟨a1, a2, a3, a4⟩ := bt_of C g
  refine pi_imp (pi_range1 a1 a2 (pa_cons (ha W tk) pa_nil (star_e st)) (star_e st)) fun σ H R q => ?_
  obtain ⟨z, env, S, RI, E, he, hr, hw, hR, hE⟩ := q
  refine ⟨z, env, S, _, E, he, hr, hw, fun x S1 v H1 x1 r1 t1 q1 => ?_, hE⟩
  split at q1
  · cases t1
    refine ⟨_, rfl, q1.1.1, q1.1.2, hR _ _ _ _ _ x1 r1 walk_rg ?_⟩
    simpa using q1.2
  · exact q1.elim
theorem ji_r2 (C : CtxOk X G) {tg e u : Expr} {x : Str} {p pos : Pos} {wa wb : WE1} (hx : x = ("range" : Str)) (g : btB G x = true) (st : notStar e = true) (st2 : notStar u = true) (ha : JE X e wa) (hb : JE X u wb) : JI X tg (.Call (.Name x p) [e, u] [] pos) (fun env S R E => wa env S (fun x S1 => wb env S1 (fun y S2 => match x, y with
    | .int i, .int j => (-(2 ^ 62) ≤ i ∧ i < 2 ^ 62 ∧ -(2 ^ 62) ≤ j ∧ j < 2 ^ 62) ∧ R ((List.range (j - i).toNat).map fun n => .int (i + (n : Nat))) (fun _ => True) S2
    | _, _ => False) E) E) := fun W tk => by
  subst hx
  obtain ⟨a1, a2, a3, a4⟩ := bt_of C g
  refine pi_imp (pi_range2 a1 a2 (pa_cons (ha W tk) (pa_cons (hb W tk) pa_nil (star_e st2)) (star_e st)) (by rw [star_e st, star_e st2]; rfl) (by rw [star_e st2]; rfl)) fun σ H R q => ?_
  obtain ⟨z, env, S, RI, E, he, hr, hw, hR, hE⟩ := q
  refine ⟨z, env, S, _, E, he, hr, hw, fun x S1 v H1 x1 r1 t1 q1 => ?_, hE⟩
  refine ⟨z, env, S1, _, E, he.mn x1, r1, q1, fun y S2 w H2 x2 r2 t2 q2 => ?_, lX.on hE x1⟩
  split at q2
  · cases t1; cases t2
    exact ⟨_, _, rfl, q2.1, hR _ _ _ _ _ (x1.trans x2) r2 walk_rg q2.2⟩
  · exact q2.elim
theorem walk_rc {K : PySem.W.Frag} {z : Addr → Prop} {H : Hp} {S : Sto} {lo c : Int} {n : Nat} : WalkT K z H S (Itc lo c n) ((List.range n).map fun i => .int (lo + (i : Nat) * c)) (fun _ => True) := by
  refine ⟨fun _ => True, YFn fun i => .int (lo + (i : Nat) * c), by simpa using walk_rangeC (lo := lo) (c := c) (n := n), fun z' H' S' rl hr' g => ⟨trivial, fun i x H2 hi y => ?_⟩⟩
  obtain ⟨y1, y2⟩ := y
  subst y1 y2
  simp only [List.length_map, List.length_range] at hi
  exact ⟨.int (lo + (i : Nat) * c), by simp [hi], Ext.refl _ _, hr', .int _⟩
theorem ji_r3 (C : CtxOk X G) {tg e u v : Expr} {x : Str} {p pos : Pos} {wa wb wc : WE1} (hx : x = ("range" : Str)) (g : btB G x = true) (st : notStar e = true) (st2 : notStar u = true) (st3 : notStar v = true) (ha : JE X e wa) (hb : JE X u wb) (hc : JE X v wc) : JI X tg (.Call (.Name x p) [e, u, v] [] pos) (fun env S R E => wa env S (fun x S1 => wb env S1 (fun y S2 => wc env S2 (fun u S3 => match x, y, u with
    | .int i, .int j, .int k => ∃ n, RgC i j k n ∧ R ((List.range n).map fun m => .int (i + (m : Nat) * k)) (fun _ => True) S3
    | _, _, _ => False) E) E) E) := fun W tk => by
  subst hx
  obtain ⟨a1, a2, a3, a4⟩ := bt_of C g
  refine pi_imp (pi_range3 a1 a2 (pa_cons (ha W tk) (pa_cons (hb W tk) (pa_cons (hc W tk) pa_nil (star_e st3)) (star_e st2)) (star_e st)) (by rw [star_e st]) (by rw [star_e st2, star_e st3]; rfl)) fun σ H R q => ?_
  obtain ⟨z, env, S, RI, E, he, hr, hw, hR, hE⟩ := q
  refine ⟨z, env, S, _, E, he, hr, hw, fun x S1 v H1 x1 r1 t1 q1 => ?_, hE⟩
  refine ⟨z, env, S1, _, E, he.mn x1, r1, q1, fun y S2 w H2 x2 r2 t2 q2 => ?_, lX.on hE x1⟩
  refine ⟨z, env, S2, _, E, he.mn (x1.trans x2), r2, q2, fun y S3 w H3 x3 r3 t3 q3 => ?_, lX.on hE (x1.trans x2)⟩
  split at q3
  · cases t1; cases t2; cases t3
    obtain ⟨n, c, q4⟩ := q3
    exact ⟨_, _, _, n, rfl, c, hR _ _ _ _ _ ((x1.trans x2).trans x3) r3 walk_rc q4⟩
  · exact q3.elim
theorem pair_new {K : PySem.W.Frag} {z : Addr → Prop} {H : Hp} {S : Sto} (hr : HR K z H S) {t u : T} {x y : V} (a : RT K z H S t x) (b : RT K z H S u y) {p : Addr} (n : H p = none) : Ext H S (upd H p (.tup [x, y])) S ∧ HR K z (upd H p (.tup [x, y])) S ∧ RT K z (upd H p (.tup [x, y])) S (.tup [t, u]) (.ref p) :=
  ⟨Ext.new n, hr.new n, .tup upd_same (hr.fr n) (.cons (a.mn (Ext.new n)) (.cons (b.mn (Ext.new n)) .nil))⟩
theorem walk_zl {K : PySem.W.Frag} {z : Addr → Prop} {H : Hp} {S : Sto} {a b : Addr} {x y : T} {ts us : List T} (t : RT K z H S x (.ref a)) (u : RT K z H S y (.ref b)) (e : lstL S x = some ts) (e2 : lstL S y = some us) :
    WalkT K z H S (Itz K a b) ((ts.zip us).map fun p => .tup [p.1, p.2]) (fun S' => gdOf S x S' ∧ gdOf S y S') := by
  refine ⟨fun H' => ∃ vs ws, vs.length = ts.length ∧ ws.length = us.length ∧ SqL K H' a vs ∧ SqL K H' b ws, (Itz K a b).yld, ⟨fun i H' hi ⟨vs, ws, l, m, q, r⟩ => ?_, fun H' ⟨vs, ws, l, m, q, r⟩ => ⟨vs, ws, q, r, ?_⟩, fun i H' y H2 hi _ yl => yl⟩, fun z' H' S' rl hr' g => ?_⟩
  · simp only [List.length_map, List.length_zip] at hi
    exact ⟨vs, ws, vs[i]'(by omega), ws[i]'(by omega), q, r, by simp, by simp⟩
  · simp only [List.length_map, List.length_zip]; omega
  · obtain ⟨vs, q, rr⟩ := list_at t e rl hr' g.1
    obtain ⟨ws, q2, rr2⟩ := list_at u e2 rl hr' g.2
    refine ⟨⟨vs, ws, rr.len, rr2.len, q, q2⟩, fun i v H2 hi yl => ?_⟩
    obtain ⟨p, v1, v2, rfl, n, rfl, y1, y2⟩ := yl
    obtain ⟨t1, e3, r1⟩ := rr.get (y1 vs q)
    obtain ⟨u1, e4, r2⟩ := rr2.get (y2 ws q2)
    obtain ⟨c1, c2, c3⟩ := pair_new hr' r1 r2 n
    refine ⟨.tup [t1, u1], ?_, c1, c2, c3⟩
    rw [List.getElem?_map, List.getElem?_zip_eq_some (z := (t1, u1)) |>.mpr ⟨e3, e4⟩]
    rfl
theorem walk_zt {K : PySem.W.Frag} {z : Addr → Prop} {H : Hp} {S : Sto} {a b : Addr} {ts us : List T} (t : RT K z H S (.tup ts) (.ref a)) (u : RT K z H S (.tup us) (.ref b)) :
    WalkT K z H S (RZ.ItzT K a b) ((ts.zip us).map fun p => .tup [p.1, p.2]) (fun _ => True) := by
  refine ⟨fun H' => ∃ vs ws, vs.length = ts.length ∧ ws.length = us.length ∧ SqT K H' a vs ∧ SqT K H' b ws, (RZ.ItzT K a b).yld, ⟨fun i H' hi ⟨vs, ws, l, m, q, r⟩ => ?_, fun H' ⟨vs, ws, l, m, q, r⟩ => ⟨vs, ws, q, r, ?_⟩, fun i H' y H2 hi _ yl => yl⟩, fun z' H' S' rl hr' g => ?_⟩
  · simp only [List.length_map, List.length_zip] at hi
    exact ⟨vs, ws, vs[i]'(by omega), ws[i]'(by omega), q, r, by simp, by simp⟩
  · simp only [List.length_map, List.length_zip]; omega
  · obtain ⟨_, vs, ea, q, rr⟩ := (RT.to rl _ _ t).sqT
    obtain ⟨_, ws, eb, q2, rr2⟩ := (RT.to rl _ _ u).sqT
    cases ea; cases eb
    refine ⟨⟨vs, ws, rr.len, rr2.len, q, q2⟩, fun i v H2 hi yl => ?_⟩
    obtain ⟨p, v1, v2, rfl, n, rfl, y1, y2⟩ := yl
    obtain ⟨t1, e3, r1⟩ := rr.get (y1 vs q)
    obtain ⟨u1, e4, r2⟩ := rr2.get (y2 ws q2)
    obtain ⟨c1, c2, c3⟩ := pair_new hr' r1 r2 n
    refine ⟨.tup [t1, u1], ?_, c1, c2, c3⟩
    rw [List.getElem?_map, List.getElem?_zip_eq_some (z := (t1, u1)) |>.mpr ⟨e3, e4⟩]
    rfl
def isTp : T → Bool
  | .tup _ => true
  | _ => false
theorem seqB_rel {K : PySem.W.Frag} {z : Addr → Prop} {H : Hp} {S : Sto} (hr : HR K z H S) {t : T} {v : V} {ts : List T} (h : RT K z H S t v) (e : seqOf S t = some ts) : ∃ a vs, v = .ref a ∧ SqB (isTp t) K H a vs ∧ RTs K z H S ts vs := by
  cases t with
  | tup us => cases e; obtain ⟨a, vs, e, q, r⟩ := h.sqT; exact ⟨a, vs, e, q, r⟩
  | _ => exact lstL_rel hr h e
theorem seqB_at {K : PySem.W.Frag} {z : Addr → Prop} {H : Hp} {S : Sto} {a : Addr} {x : T} {ts : List T} (t : RT K z H S x (.ref a)) (e : seqOf S x = some ts) {z' : Addr → Prop} {H' : Hp} {S' : Sto} (rl : Rl z H S z' H' S') (hr' : HR K z' H' S') (g : gdOf S x S') :
    ∃ vs, SqB (isTp x) K H' a vs ∧ RTs K z' H' S' ts vs := by
  cases x with
  | tup us => cases e; obtain ⟨_, vs, ea, q, r⟩ := (RT.to rl _ _ t).sqT; cases ea; exact ⟨vs, q, r⟩
  | _ => exact list_at t e rl hr' g
theorem walk_zB {K : PySem.W.Frag} {z : Addr → Prop} {H : Hp} {S : Sto} {a b : Addr} {x y : T} {ts us : List T} (t : RT K z H S x (.ref a)) (u : RT K z H S y (.ref b)) (e : seqOf S x = some ts) (e2 : seqOf S y = some us) :
    WalkT K z H S (ItzB (isTp x) (isTp y) K a b) ((ts.zip us).map fun p => .tup [p.1, p.2]) (fun S' => gdOf S x S' ∧ gdOf S y S') := by
  refine ⟨fun H' => ∃ vs ws, vs.length = ts.length ∧ ws.length = us.length ∧ SqB (isTp x) K H' a vs ∧ SqB (isTp y) K H' b ws, (ItzB (isTp x) (isTp y) K a b).yld, ⟨fun i H' hi ⟨vs, ws, l, m, q, r⟩ => ?_, fun H' ⟨vs, ws, l, m, q, r⟩ => ⟨vs, ws, q, r, ?_⟩, fun i H' y H2 hi _ yl => yl⟩, fun z' H' S' rl hr' g => ?_⟩
  · simp only [List.length_map, List.length_zip] at hi
    exact ⟨vs, ws, vs[i]'(by omega), ws[i]'(by omega), q, r, by simp, by simp⟩
  · simp only [List.length_map, List.length_zip]; omega
  · obtain ⟨vs, q, rr⟩ := seqB_at t e rl hr' g.1
    obtain ⟨ws, q2, rr2⟩ := seqB_at u e2 rl hr' g.2
    refine ⟨⟨vs, ws, rr.len, rr2.len, q, q2⟩, fun i v H2 hi yl => ?_⟩
    obtain ⟨p, v1, v2, rfl, n, rfl, y1, y2⟩ := yl
    obtain ⟨t1, e3, r1⟩ := rr.get (y1 vs q)
    obtain ⟨u1, e4, r2⟩ := rr2.get (y2 ws q2)
    obtain ⟨c1, c2, c3⟩ := pair_new hr' r1 r2 n
    refine ⟨.tup [t1, u1], ?_, c1, c2, c3⟩
    rw [List.getElem?_map, List.getElem?_zip_eq_some (z := (t1, u1)) |>.mpr ⟨e3, e4⟩]
    rfl
theorem walk_any {K : PySem.W.Frag} {z : Addr → Prop} {H : Hp} {S : Sto} {J : It} {ts : List T} {gd gd' : Sto → Prop} (h : WalkT K z H S J ts gd) (i : ∀ S', gd' S' → gd S') : WalkT K z H S J ts gd' := by
  obtain ⟨Gd, Y, w, k⟩ := h
  exact ⟨Gd, Y, w, fun z' H' S' rl hr g => k z' H' S' rl hr (i S' g)⟩
theorem ji_z (C : CtxOk X G) {elts : List Expr} {kk : Nat} {tp : Pos} {e u : Expr} {x : Str} {p pos : Pos} {wa wb : WE1} (hx : x = ("zip" : Str)) (g : btB G x = true) (st : notStar e = true) (st2 : notStar u = true) (ha : JE X e wa) (hb : JE X u wb) : JI X (.Tuple elts kk tp) (.Call (.Name x p) [e, u] [] pos) (fun env S R E => wa env S (fun x S1 => wb env S1 (fun y S2 =>
    zipK S2 x y R) E) E) := fun W tk => by
  subst hx
  obtain ⟨a1, a2, a3, a4⟩ := bt_of C g
  refine pi_imp (pi_zipB a1 a2 (pa_cons (ha W tk) (pa_cons (hb W tk) pa_nil (star_e st2)) (star_e st)) (star_e st) (back_any (es := [u]) (by simp [st2]))) fun σ H R q => ?_
  obtain ⟨z, env, S, RI, E, he, hr, hw, hR, hE⟩ := q
  refine ⟨z, env, S, _, E, he, hr, hw, fun x S1 v H1 x1 r1 t1 q1 => ?_, hE⟩
  refine ⟨z, env, S1, _, E, he.mn x1, r1, q1, fun y S2 w H2 x2 r2 t2 q2 => ?_, lX.on hE x1⟩
  have t1' := t1.mn x2
  unfold zipK at q2
  split at q2
  · rename_i ts us
    obtain ⟨a, vs, rfl, q, _⟩ := seqB_rel r2 t1' (show seqOf S2 (.tup ts) = some ts from rfl)
    obtain ⟨b, ws, rfl, q', _⟩ := seqB_rel r2 t2 (show seqOf S2 (.tup us) = some us from rfl)
    exact ⟨a, b, vs, ws, _, _, rfl, q, q', hR _ _ _ _ _ (x1.trans x2) r2 (walk_any (walk_zB t1' t2 rfl rfl) fun S' _ => ⟨trivial, trivial⟩) q2⟩
  · split at q2
    · rename_i e1 e2
      obtain ⟨a, vs, rfl, q, _⟩ := seqB_rel r2 t1' e1
      obtain ⟨b, ws, rfl, q', _⟩ := seqB_rel r2 t2 e2
      exact ⟨a, b, vs, ws, _, _, rfl, q, q', hR _ _ _ _ _ (x1.trans x2) r2 (walk_zB t1' t2 e1 e2) q2⟩
    · exact q2.elim
theorem walk_en {K : PySem.W.Frag} {z : Addr → Prop} {H : Hp} {S : Sto} {a : Addr} {x : T} {ts : List T} (t : RT K z H S x (.ref a)) (e : lstL S x = some ts) : WalkT K z H S (Ite K a) (ts.mapIdx fun i t => .tup [.int (i : Nat), t]) (gdOf S x) := by
  refine ⟨fun H' => ∃ vs, vs.length = ts.length ∧ SqL K H' a vs, (Ite K a).yld, ⟨fun i H' hi ⟨vs, l, q⟩ => ?_, fun H' ⟨vs, l, q⟩ => ⟨vs, q, by simp; omega⟩, fun i H' y H2 hi _ yl => yl⟩, fun z' H' S' rl hr' g => ?_⟩
  · simp only [List.length_mapIdx] at hi
    exact ⟨vs, vs[i]'(by omega), q, by simp⟩
  · obtain ⟨vs, q, rr⟩ := list_at t e rl hr' g
    refine ⟨⟨vs, rr.len, q⟩, fun i v H2 hi yl => ?_⟩
    obtain ⟨p, y, rfl, n, rfl, y1⟩ := yl
    obtain ⟨t', e1, e2⟩ := rr.get (y1 vs q)
    obtain ⟨c1, c2, c3⟩ := pair_new hr' (.int (i : Nat)) e2 n
    refine ⟨.tup [.int (i : Nat), t'], ?_, c1, c2, c3⟩
    rw [List.getElem?_mapIdx, e1]; rfl
theorem walk_enT {K : PySem.W.Frag} {z : Addr → Prop} {H : Hp} {S : Sto} {a : Addr} {ts : List T} (t : RT K z H S (.tup ts) (.ref a)) : WalkT K z H S (IteT K a) (ts.mapIdx fun i t => .tup [.int (i : Nat), t]) (fun _ => True) := by
  refine ⟨fun H' => ∃ vs, vs.length = ts.length ∧ SqT K H' a vs, (IteT K a).yld, ⟨fun i H' hi ⟨vs, l, q⟩ => ?_, fun H' ⟨vs, l, q⟩ => ⟨vs, q, by simp; omega⟩, fun i H' y H2 hi _ yl => yl⟩, fun z' H' S' rl hr' g => ?_⟩
  · simp only [List.length_mapIdx] at hi
    exact ⟨vs, vs[i]'(by omega), q, by simp⟩
  · obtain ⟨_, vs, ea, q, rr⟩ := (RT.to rl _ _ t).sqT
    cases ea
    refine ⟨⟨vs, rr.len, q⟩, fun i v H2 hi yl => ?_⟩
    obtain ⟨p, y, rfl, n, rfl, y1⟩ := yl
    obtain ⟨t', e1, e2⟩ := rr.get (y1 vs q)
    obtain ⟨c1, c2, c3⟩ := pair_new hr' (.int (i : Nat)) e2 n
    refine ⟨.tup [.int (i : Nat), t'], ?_, c1, c2, c3⟩
    rw [List.getElem?_mapIdx, e1]; rfl
theorem ji_e (C : CtxOk X G) {elts : List Expr} {kk : Nat} {tp : Pos} {e : Expr} {x : Str} {p pos : Pos} {wa : WE1} (hx : x = ("enumerate" : Str)) (g : btB G x = true) (st : notStar e = true) (ha : JE X e wa) : JI X (.Tuple elts kk tp) (.Call (.Name x p) [e] [] pos) (fun env S R E => wa env S (fun x S1 => match seqOf S1 x with
    | some ts => R (ts.mapIdx fun i t => .tup [.int (i : Nat), t]) (gdOf S1 x) S1
    | none => False) E) := fun W tk => by
  subst hx
  obtain ⟨a1, a2, a3, a4⟩ := bt_of C g
  refine pi_imp (pi_enumA a1 a2 (pa_cons (ha W tk) pa_nil (star_e st)) (star_e st)) fun σ H R q => ?_
  obtain ⟨z, env, S, RI, E, he, hr, hw, hR, hE⟩ := q
  refine ⟨z, env, S, _, E, he, hr, hw, fun x S1 v H1 x1 r1 t1 q1 => ?_, hE⟩
  split at q1
  · rename_i e1
    cases x with
    | tup us =>
      cases e1
      obtain ⟨a, vs, rfl, q, _⟩ := t1.sqT
      exact ⟨a, vs, rfl, .inr ⟨q, hR _ _ _ _ _ x1 r1 (walk_enT t1) q1⟩⟩
    | _ =>
      obtain ⟨a, vs, rfl, q, _⟩ := lstL_rel r1 t1 e1
      exact ⟨a, vs, rfl, .inl ⟨q, hR _ _ _ _ _ x1 r1 (walk_en t1 e1) q1⟩⟩
  · exact q1.elim

/-! ### comprehensions -/
theorem lc_read {tg iter : Expr} {wi : WI1} {wc : WT1} {we : WE1} {g : Tg} {own : List Nat} {W : WX} {σ : L2.St} {H : Hp} {Q : VK} (hs : ∀ j ∈ slotsG g, j ∈ own)
    (h : lE X.K W (fun env S R E => wi env S (fun ts gd S1 => wLc own g wc we gd env ts [] S1 fun acc S2 => ∀ p, S2 p = none → R (.ref p) (up S2 p (.lst acc))) E) σ H Q) :
    tLc (lI X.K W wi) (lTg X.K g) (lT X.K (fun _ _ _ _ => False) wc) (lE X.K (fun _ _ _ _ => False) we) own σ H Q := by
  obtain ⟨z, env, S, R, E, he, hr, hw, hR, hE⟩ := h
  refine ⟨z, env, S, _, E, he, hr, hw, fun ts gd S1 H1 J x1 r1 wk q1 => ?_, hE⟩
  intro D nD
  obtain ⟨Gd, Y, wJ, wK⟩ := wk
  have hz : ¬ z D := (r1.fr nD).2
  -- what stands behind i turns
  refine lc_it wJ (Pv := fun i H2 => ∃ S2 acc vs, H2 D = some (.lst vs) ∧ HR X.K (zo z D) H2 S2 ∧ Rl z H1 S1 (zo z D) H2 S2 ∧ Ext H1 S1 H2 S2 ∧ RTs X.K (zo z D) H2 S2 acc vs ∧
      wLc own g wc we gd env (ts.drop i) acc S2 fun acc S2 => ∀ p, S2 p = none → R (.ref p) (up S2 p (.lst acc))) ?_ ?_ ?_ ?_
  · exact ⟨S1, [], [], upd_same, r1.hide nD, Rl.hide nD, fun b o e n => ⟨by rw [upd_ne (ne_of_none e nD)]; exact e, n⟩, .nil, by simpa using q1⟩
  · rintro i H2 hi ⟨S2, acc, vs, h1, h2, h3, h4, h5, h6⟩
    have gg : gd S2 := by
      cases e : ts.drop i with
      | nil => rw [e] at h6; exact h6.1
      | cons t r => rw [e] at h6; exact h6.1
    exact (wK (zo z D) H2 S2 h3 h2 gg).1
  · rintro i x H2 H3 hi ⟨S2, acc, vs, h1, h2, h3, h4, h5, h6⟩ hy
    have ed : ts.drop i = ts[i] :: ts.drop (i + 1) := List.drop_eq_getElem_cons hi
    rw [ed] at h6
    obtain ⟨gg, lz, h6⟩ := h6
    obtain ⟨t, e1, x3, r3, rt⟩ := (wK (zo z D) H2 S2 h3 h2 gg).2 i x H3 hi hy
    have et : ts[i] = t := by
      have := List.getElem?_eq_getElem hi
      rw [this] at e1; exact Option.some.inj e1
    rw [et] at h6
    have dn : S2 D = none := (h2.hid D (.inr rfl)).2
    have d3 : H3 D = some (.lst vs) := (x3 D _ h1 dn).1
    have he3 : EnvR X.K (zo z D) H3 S2 (wipeE env own) (L2.wipe σ own) := (EnvR.to ((h3.trans (Rl.of x3))) (he.mn x1)).wipe own
    refine ⟨zo z D, wipeE env own, S2, t, _, he3, r3, rt, h6, fun env' σ' he' bt h7 => ⟨?_, ?_⟩⟩
    · rw [bt.wipe hs, wipe_wipe]
    refine ⟨zo z D, env', S2, _, _, he', r3, h7, fun b S4 b' H4 x4 r4 eb h8 => ?_, fun _ _ _ _ _ _ _ _ f => f⟩
    subst eb
    have x34 := x3.trans x4
    have rl4 : Rl z H1 S1 (zo z D) H4 S4 := h3.trans (Rl.of x34)
    have ex4 : Ext H1 S1 H4 S4 := h4.trans x34
    have d4 : H4 D = some (.lst vs) := (x34 D _ h1 dn).1
    cases b with
    | false =>
      rw [if_neg Bool.false_ne_true] at h8 ⊢
      exact ⟨S4, acc, vs, d4, r4, rl4, ex4, h5.mn x34, h8⟩
    | true =>
      rw [if_pos rfl] at h8 ⊢
      refine ⟨zo z D, env', S4, _, _, he'.mn x4, r4, h8, fun r S5 y H5 x5 r5 ry h9 => ?_, fun _ _ _ _ _ _ _ _ f => f⟩
      have x35 := x34.trans x5
      have d5 : H5 D = some (.lst vs) := (x35 D _ h1 dn).1
      have h5' := h5.mn x35
      refine ⟨vs, d5, by rw [h5.len]; exact lz, S5, acc ++ [r], vs ++ [y], upd_same, r5.chg, (rl4.trans (Rl.of x5)).trans Rl.chg, fun b o e n => ?_, (RTs.to Rl.chg _ _ h5').app (.cons (RT.to Rl.chg _ _ ry) .nil), h9⟩
      obtain ⟨e5, n5⟩ := (ex4.trans x5) b o e n
      exact ⟨by rw [upd_ne (ne_of_none e nD)]; exact e5, n5⟩
  · rintro H2 ⟨S2, acc, vs, h1, h2, h3, h4, h5, h6⟩
    rw [List.drop_length] at h6
    have dn : S2 D = none := (h2.hid D (.inr rfl)).2
    refine hR _ _ _ _ (fun b o e n => ?_) (h2.show_ hz h1 h5) (.ref D) (h6.2 D dn)
    obtain ⟨e1, n1⟩ := x1 b o e n
    obtain ⟨e2, n2⟩ := h4 b o e1 n1
    exact ⟨e2, by rw [up_ne (ne_of_none e1 nD)]; exact n2⟩
/-- a comprehension's inner walk: the new list stands at D meanwhile -/
theorem lc_in {X : Cx} {z : Addr → Prop} {Hb : Hp} {Sb : Sto} {D : Addr} (nD : Hb D = none) {wc : WT1} {we : WE1} {g : Tg} {own : List Nat} (hs : ∀ j ∈ slotsG g, j ∈ own) {env : Env} {σ : L2.St} {H0 : Hp} {S0 : Sto} {J : It} {ts : List T} {gd : Sto → Prop}
    (wk : WalkT X.K (zo z D) H0 S0 J ts gd) (he : EnvR X.K (zo z D) H0 S0 env σ) (hr : HR X.K (zo z D) H0 S0) (ex : Ext Hb Sb H0 S0) {acc0 : List T} {vs0 : List V} (hd : H0 D = some (.lst vs0)) (ra : RTs X.K (zo z D) H0 S0 acc0 vs0) {Kc : List T → Sto → Prop} (q : wLc own g wc we gd env ts acc0 S0 Kc) {Nx : Hp → Prop}
    (fin : ∀ S' acc' vs' H', H' D = some (.lst vs') → HR X.K (zo z D) H' S' → Rl (zo z D) H0 S0 (zo z D) H' S' → Ext Hb Sb H' S' → RTs X.K (zo z D) H' S' acc' vs' → Kc acc' S' → Nx H') :
    ∃ W1 : Nat → Nat → Hp → Prop, (∃ m, W1 0 m H0) ∧ ∀ j k H, W1 j k H → (J.stop j H ∧ Nx H) ∨ (J.go j H ∧ ∃ Nx1 : Hp → Prop, (∀ H', Nx1 H' → ∃ k', k' < k ∧ W1 (j + 1) k' H') ∧ ∀ x H', J.yld j H x H' → lTg X.K g x (L2.wipe σ own) H' fun σ3 H5 => L2.wipe σ3 own = L2.wipe σ own ∧ lT X.K (fun _ _ _ _ => False) wc σ3 H5 fun b H6 => if b = true then lE X.K (fun _ _ _ _ => False) we σ3 H6 fun y H7 => ∃ acc, H7 D = some (.lst acc) ∧ acc.length < sizeLine ∧ Nx1 (upd H7 D (.lst (acc ++ [y]))) else Nx1 H6) := by
  obtain ⟨Gd, Y, wJ, wK⟩ := wk
  let Pv : Nat → Hp → Prop := fun i H2 => ∃ S2 acc vs, H2 D = some (.lst vs) ∧ HR X.K (zo z D) H2 S2 ∧ Rl (zo z D) H0 S0 (zo z D) H2 S2 ∧ Ext Hb Sb H2 S2 ∧ RTs X.K (zo z D) H2 S2 acc vs ∧ wLc own g wc we gd env (ts.drop i) acc S2 Kc
  have hG : ∀ i H2, i ≤ ts.length → Pv i H2 → Gd H2 := by
    rintro i H2 hi ⟨S2, acc, vs, h1, h2, h3, h4, h5, h6⟩
    have gg : gd S2 := by
      cases e : ts.drop i with
      | nil => rw [e] at h6; exact h6.1
      | cons t r => rw [e] at h6; exact h6.1
    exact (wK (zo z D) H2 S2 h3 h2 gg).1
  refine ⟨fun i m H => m = ts.length - i ∧ i ≤ ts.length ∧ Pv i H, ⟨ts.length, by simp, Nat.zero_le _, S0, acc0, vs0, hd, hr, Rl.of (Ext.refl _ _), ex, ra, by simpa using q⟩, ?_⟩
  rintro i m H2 ⟨rfl, hi, p⟩
  have gq := hG i H2 hi p
  by_cases hlt : i < ts.length
  · refine .inr ⟨wJ.goes i H2 hlt gq, Pv (i + 1), fun H' p' => ⟨ts.length - (i + 1), by omega, rfl, hlt, p'⟩, fun x H3 yy => ?_⟩
    have hy := wJ.yields i H2 x H3 hlt gq yy
    obtain ⟨S2, acc, vs, h1, h2, h3, h4, h5, h6⟩ := p
    have ed : ts.drop i = ts[i] :: ts.drop (i + 1) := List.drop_eq_getElem_cons hlt
    rw [ed] at h6
    obtain ⟨gg, lz, h6⟩ := h6
    obtain ⟨t, e1, x3, r3, rt⟩ := (wK (zo z D) H2 S2 h3 h2 gg).2 i x H3 hlt hy
    have et : ts[i] = t := by
      have := List.getElem?_eq_getElem hlt
      rw [this] at e1; exact Option.some.inj e1
    rw [et] at h6
    have dn : S2 D = none := (h2.hid D (.inr rfl)).2
    have he3 : EnvR X.K (zo z D) H3 S2 (wipeE env own) (L2.wipe σ own) := (EnvR.to (h3.trans (Rl.of x3)) he).wipe own
    refine ⟨zo z D, wipeE env own, S2, t, _, he3, r3, rt, h6, fun env' σ' he' bt h7 => ⟨?_, ?_⟩⟩
    · rw [bt.wipe hs, wipe_wipe]
    refine ⟨zo z D, env', S2, _, _, he', r3, h7, fun b S4 b' H4 x4 r4 eb h8 => ?_, fun _ _ _ _ _ _ _ _ f => f⟩
    subst eb
    have x34 := x3.trans x4
    have rl4 : Rl (zo z D) H0 S0 (zo z D) H4 S4 := h3.trans (Rl.of x34)
    have ex4 : Ext Hb Sb H4 S4 := h4.trans x34
    have d4 : H4 D = some (.lst vs) := (x34 D _ h1 dn).1
    cases b with
    | false =>
      rw [if_neg Bool.false_ne_true] at h8 ⊢
      exact ⟨S4, acc, vs, d4, r4, rl4, ex4, h5.mn x34, h8⟩
    | true =>
      rw [if_pos rfl] at h8 ⊢
      refine ⟨zo z D, env', S4, _, _, he'.mn x4, r4, h8, fun r S5 y H5 x5 r5 ry h9 => ?_, fun _ _ _ _ _ _ _ _ f => f⟩
      have x35 := x34.trans x5
      have d5 : H5 D = some (.lst vs) := (x35 D _ h1 dn).1
      have h5' := h5.mn x35
      refine ⟨vs, d5, by rw [h5.len]; exact lz, S5, acc ++ [r], vs ++ [y], upd_same, r5.chg, (rl4.trans (Rl.of x5)).trans Rl.chg, fun b o e n => ?_, (RTs.to Rl.chg _ _ h5').app (.cons (RT.to Rl.chg _ _ ry) .nil), h9⟩
      obtain ⟨e5, n5⟩ := (ex4.trans x5) b o e n
      exact ⟨by rw [upd_ne (ne_of_none e nD)]; exact e5, n5⟩
  · have e : i = ts.length := by omega
    subst e
    refine .inl ⟨wJ.stops H2 gq, ?_⟩
    obtain ⟨S2, acc, vs, h1, h2, h3, h4, h5, h6⟩ := p
    rw [List.drop_length] at h6
    exact fin S2 acc vs H2 h1 h2 h3 h4 h5 h6.2
theorem lc2_read {wi wi1 : WI1} {wc : WT1} {we : WE1} {g g1 : Tg} {own own1 : List Nat} {W : WX} {σ : L2.St} {H : Hp} {Q : VK} (hs : ∀ j ∈ slotsG g, j ∈ own) (hs1 : ∀ j ∈ slotsG g1, j ∈ own1)
    (h : lE X.K W (fun env S R E => wi env S (fun ts gd S1 => wLc2 own own1 g wi1 g1 wc we gd env ts [] S1 fun acc S2 => ∀ p, S2 p = none → R (.ref p) (up S2 p (.lst acc))) E) σ H Q) :
    tLc2 (lI X.K W wi) (lTg X.K g) (lT X.K (fun _ _ _ _ => False) fun _ S R _ => R true S) (lI X.K (fun _ _ _ _ => False) wi1) (lTg X.K g1) (lT X.K (fun _ _ _ _ => False) wc) (lE X.K (fun _ _ _ _ => False) we) own own1 σ H Q := by
  obtain ⟨z, env, S, R, E, he, hr, hw, hR, hE⟩ := h
  refine ⟨z, env, S, _, E, he, hr, hw, fun ts gd S1 H1 J x1 r1 wk q1 => ?_, hE⟩
  intro D nD
  obtain ⟨Gd, Y, wJ, wK⟩ := wk
  have hz : ¬ z D := (r1.fr nD).2
  let Pv : Nat → Hp → Prop := fun i H2 => ∃ S2 acc vs, H2 D = some (.lst vs) ∧ HR X.K (zo z D) H2 S2 ∧ Rl z H1 S1 (zo z D) H2 S2 ∧ Ext H1 S1 H2 S2 ∧ RTs X.K (zo z D) H2 S2 acc vs ∧
      wLc2 own own1 g wi1 g1 wc we gd env (ts.drop i) acc S2 fun acc S2 => ∀ p, S2 p = none → R (.ref p) (up S2 p (.lst acc))
  have hG : ∀ i H2, i ≤ ts.length → Pv i H2 → Gd H2 := by
    rintro i H2 hi ⟨S2, acc, vs, h1, h2, h3, h4, h5, h6⟩
    have gg : gd S2 := by
      cases e : ts.drop i with
      | nil => rw [e] at h6; exact h6.1
      | cons t r => rw [e] at h6; exact h6.1
    exact (wK (zo z D) H2 S2 h3 h2 gg).1
  refine ⟨fun i m H => m = ts.length - i ∧ i ≤ ts.length ∧ Pv i H, ⟨ts.length, by simp, Nat.zero_le _, S1, [], [], upd_same, r1.hide nD, Rl.hide nD, fun b o e n => ⟨by rw [upd_ne (ne_of_none e nD)]; exact e, n⟩, .nil, by simpa using q1⟩, ?_⟩
  rintro i m H2 ⟨rfl, hi, p⟩
  have gq := hG i H2 hi p
  by_cases hlt : i < ts.length
  · refine .inr ⟨wJ.goes i H2 hlt gq, Pv (i + 1), fun H' p' => ⟨ts.length - (i + 1), by omega, rfl, hlt, p'⟩, fun x H3 yy => ?_⟩
    have hy := wJ.yields i H2 x H3 hlt gq yy
    obtain ⟨S2, acc, vs, h1, h2, h3, h4, h5, h6⟩ := p
    have ed : ts.drop i = ts[i] :: ts.drop (i + 1) := List.drop_eq_getElem_cons hlt
    rw [ed] at h6
    obtain ⟨gg, h6⟩ := h6
    obtain ⟨t, e1, x3, r3, rt⟩ := (wK (zo z D) H2 S2 h3 h2 gg).2 i x H3 hlt hy
    have et : ts[i] = t := by
      have := List.getElem?_eq_getElem hlt
      rw [this] at e1; exact Option.some.inj e1
    rw [et] at h6
    have dn : S2 D = none := (h2.hid D (.inr rfl)).2
    have he3 : EnvR X.K (zo z D) H3 S2 (wipeE env own) (L2.wipe σ own) := (EnvR.to ((h3.trans (Rl.of x3))) (he.mn x1)).wipe own
    refine ⟨zo z D, wipeE env own, S2, t, _, he3, r3, rt, h6, fun env' σ' he' bt h7 => ⟨?_, ?_⟩⟩
    · rw [bt.wipe hs, wipe_wipe]
    refine ⟨zo z D, env', S2, fun b S' => b = true ∧ wi1 env' S' (fun us gd1 S2 => wLc own1 g1 wc we gd1 env' us acc S2 fun acc' S3 => wLc2 own own1 g wi1 g1 wc we gd env (ts.drop (i + 1)) acc' S3 fun acc S2 => ∀ p, S2 p = none → R (.ref p) (up S2 p (.lst acc))) (fun _ _ => False), fun _ _ => False, he', r3, ⟨rfl, h7⟩, fun b S4 b' H4 x4 r4 eb h8 => ?_, fun _ _ _ _ _ _ _ _ f => f⟩
    obtain ⟨eb2, h8⟩ := h8
    subst eb
    subst eb2
    rw [if_pos rfl]
    have x34 := x3.trans x4
    refine ⟨zo z D, env', S4, _, fun _ _ => False, he'.mn x4, r4, h8, fun us gd1 S5 H5 J1 x5 r5 wk1 q5 => ?_, fun _ _ _ _ _ _ _ _ f => f⟩
    have x35 := x34.trans x5
    have d5 : H5 D = some (.lst vs) := (x35 D _ h1 dn).1
    refine lc_in nD hs1 wk1 ((he'.mn x4).mn x5) r5 (h4.trans x35) d5 (h5.mn x35) q5 fun S6 acc' vs' H6 c1 c2 c3 c4 c5 c6 => ?_
    exact ⟨S6, acc', vs', c1, c2, (h3.trans (Rl.of x35)).trans c3, c4, c5, c6⟩
  · have e : i = ts.length := by omega
    subst e
    refine .inl ⟨wJ.stops H2 gq, ?_⟩
    obtain ⟨S2, acc, vs, h1, h2, h3, h4, h5, h6⟩ := p
    rw [List.drop_length] at h6
    have dn : S2 D = none := (h2.hid D (.inr rfl)).2
    refine hR _ _ _ _ (fun b o e n => ?_) (h2.show_ hz h1 h5) (.ref D) (h6.2 D dn)
    obtain ⟨e1, n1⟩ := x1 b o e n
    obtain ⟨e2, n2⟩ := h4 b o e1 n1
    exact ⟨e2, by rw [up_ne (ne_of_none e1 nD)]; exact n2⟩
theorem fold_e {e : Expr} {env : PySem.Env} (h : notSet e = true) : ∀ x, foldedSetIterable e env x = pure x := by
  intro x
  cases e <;> first | rfl | cases h
end
end TP

set_option maxHeartbeats 4000000
namespace TP
open PySem PySem.Spec PyProof.Rows L2
def isLc : Expr → Bool
  | .ListComp _ _ _ _ => true
  | _ => false
section
variable {X : Cx} {G : Gx}
/-- a comprehension's block -/
theorem CtxOk.blk (C : CtxOk X G) {s : Shared} {H : Hp} {scope : Scope} {Cd : Addr} {cl : List (Str × Addr)} {fp : List Addr} : CtxOk (X.blk s H scope (PySem.compEnvC scope cl Cd X.env) fp) (subG G scope) where
  hN := C.hN
  nd := C.nd
  sc := by show relS scope X.env.scope = relS scope G.sc; rw [C.sc]
  calm := C.calm
  rm := ⟨C.rm.un, C.rm.gd, C.rm.sm⟩
  fn := C.fn
  cs := C.cs
  bt := C.bt
  bf := C.bf
  cel := fun x h => by simpa [subG] using h
  ex := fun k x D h => ⟨(C.ex k x D h).ex, (C.ex k x D h).gC, (C.ex k x D h).kC, (C.ex k x D h).ra⟩
  em := C.em
/-- x given to the name y in slot i, where it is a comprehension -/
def JSet (X : Cx) (x : Expr) (w : WE1) : Prop := ∀ (y : Str) (py : Pos) (i : Nat) (spos : Pos), X.N[i]? = some y → X.env.scope.names.lookup y = some .local → swapsWith x (some (.Name y py)) spos.line X.env = pure true →
  ∀ W, Takes X W → PS X (.Assign [.Name y py] x spos) (tAsg (lE X.K W w) (gName i))
structure Ok4 (X : Cx) (G : Gx) (u : E) : Prop where
  e : ∀ x, (chk u G).e x = true → JE X x (sem G u).e
  t : ∀ x, (chk u G).e x = true → JT X x (sem G u).t
  l : ∀ op es pos, (chk u G).l op es = true → JE X (.BoolOp op es pos) (sem G u).e ∧ JW X (.BoolOp op es pos) (sem G u).t
  ap : ∀ es, (chk u G).a es = true → JA X es (sem G u).a ∧ JP X es (sem G u).a
  o : ∀ ox, (chk u G).o ox = true → JO X ox (sem G u).a
  i : ∀ tg x, (needTup u = true → isTupE tg = true) → (chk u G).i x = true → JI X tg x (sem G u).i
  s : ∀ x, (chk u G).e x = true → isLc x = true → JSet X x (sem G u).e
theorem Ok4.a {u : E} (h : Ok4 X G u) : ∀ es, (chk u G).a es = true → JA X es (sem G u).a := fun es c => (h.ap es c).1
theorem jt_noT {x : Expr} : JT X x noT := fun W tk => ⟨fun pins s σ H Q I q => by
  obtain ⟨z, env, S, R, E, he, hr, hw, _⟩ := q
  exact hw.elim⟩
/-- a tree that is a value alone -/
theorem ok4_val {u : E} {w : WE1} (hs : sem G u = Sm.val w) (h : ∀ x, (chk u G).e x = true → JE X x w ∧ plainT x = true ∧ isLc x = false) (hl : (chk u G).l = nL) (ha : (chk u G).a = nA) (ho : (chk u G).o = nO) (hi : (chk u G).i = nE) : Ok4 X G u where
  e := fun x c => by rw [hs]; exact (h x c).1
  t := fun x c => by rw [hs]; exact jt_of (h x c).1 (h x c).2.1
  l := fun op es pos c => by rw [hl] at c; cases c
  ap := fun es c => by rw [ha] at c; cases c
  o := fun es c => by rw [ho] at c; cases c
  i := fun tg x _ c => by rw [hi] at c; cases c
  s := fun x c l => by rw [(h x c).2.2] at l; cases l
theorem ok4_itr {u : E} {w : WI1} (hs : sem G u = Sm.itr w) (h : ∀ tg x, (needTup u = true → isTupE tg = true) → (chk u G).i x = true → JI X tg x w) (he : (chk u G).e = nE) (hl : (chk u G).l = nL) (ha : (chk u G).a = nA) (ho : (chk u G).o = nO) : Ok4 X G u where
  e := fun x c => by rw [he] at c; cases c
  t := fun x c => by rw [he] at c; cases c
  l := fun op es pos c => by rw [hl] at c; cases c
  ap := fun es c => by rw [ha] at c; cases c
  o := fun es c => by rw [ho] at c; cases c
  i := fun tg x n c => by rw [hs]; exact h tg x n c
  s := fun x c => by rw [he] at c; cases c
theorem pts_imp {es : List Expr} {t t' : TT} (h : PTs X es t) (i : ∀ σ H Q, t' σ H Q → t σ H Q) : PTs X es t' := ⟨fun pins s σ H Q I q => h.run pins s σ H Q I (i σ H Q q)⟩
theorem pts_yes : PTs X [] (lT X.K (fun _ _ _ _ => False) fun _ S R _ => R true S) := pts_imp pts_nil fun σ H Q q => by
  obtain ⟨z, env, S, R, E, he, hr, hw, hR, hE⟩ := q
  exact hR _ _ _ _ (Ext.refl _ _) hr rfl hw
/-- the four parts of a comprehension -/
theorem lc_parts (C : CtxOk X G) {own : List (Str × Nat)} {g : Tg} {it el : E} {wc : WT1} {elt tg iter : Expr} {ifs : List Expr} {scope : Scope} {pos : Pos}
    (hc : G.calm = true) (hb : blkC G.N G.sc scope own = true) (hi : JI X tg iter (sem G it).i) (ns : notSet iter = true) (sl : ((slotsG g).all fun j => (own.map (·.2)).contains j) = true) (hg : chkG (subG G scope) g tg = true)
    (ht : ∀ {X' : Cx}, CtxOk X' (subG G scope) → X'.K = X.K → PTs X' ifs (lT X.K (fun _ _ _ _ => False) wc)) (he : ∀ {X' : Cx}, CtxOk X' (subG G scope) → X'.K = X.K → PE X' elt (lE X.K (fun _ _ _ _ => False) (sem G el).e)) :
    let w : WE1 := fun env S R E => (sem G it).i env S (fun ts gd S1 => wLc (own.map (·.2)) g wc (sem G el).e gd env ts [] S1 fun acc S2 => ∀ p, S2 p = none → R (.ref p) (up S2 p (.lst acc))) E
    JE X (.ListComp elt [⟨tg, iter, ifs, 0⟩] scope pos) w ∧ JSet X (.ListComp elt [⟨tg, iter, ifs, 0⟩] scope pos) w := by
  intro w
  have cX : X.calm = true := by rw [C.calm]; exact hc
  have nd : X.N.Nodup := by rw [C.hN]; exact C.nd
  have ok : BlkOk X.N X.env.scope scope own := by rw [C.hN, C.sc]; exact blkOk_by hb
  have sl' : ∀ j ∈ slotsG g, j ∈ own.map (·.2) := fun j hj => by
    have := List.all_eq_true.mp sl j hj
    simpa using this
  refine ⟨fun W tk => ?_, fun y py i spos hN hy hs W tk => ?_⟩
  · refine pe_imp (pe_lc (g := lTg X.K g) (tt := lT X.K (fun _ _ _ _ => False) wc) (te := lE X.K (fun _ _ _ _ => False) (sem G el).e) cX nd (hi W tk) ok (fun s H Cd cl fp => pg_ok C.blk g tg hg) (fun s H Cd cl fp => ht C.blk rfl) (fun s H Cd cl fp => he C.blk rfl) (fold_e ns)) fun σ H Q q => ?_
    exact lc_read (tg := tg) (iter := iter) sl' q
  · have p := ps_setLc (g := lTg X.K g) (tt := lT X.K (fun _ _ _ _ => False) wc) (te := lE X.K (fun _ _ _ _ => False) (sem G el).e) (i := i) (py := py) (spos := spos) (pos := pos) cX nd hN hy hs (hi W tk) ok (fun s H Cd cl fp => pg_ok C.blk g tg hg) (fun s H Cd cl fp => ht C.blk rfl) (fun s H Cd cl fp => he C.blk rfl) (fold_e ns)
    exact ⟨fun pins s σ H D I q => p.run pins s σ H D I (lc_read (tg := tg) (iter := iter) sl' q)⟩
theorem je_callE (C : CtxOk X G) {x : Str} {sp : TSp} {as : E} {es : List Expr} {p pos : Pos} (h : FnAt X x sp) (g : glB G.sc x = true) (c : (chk as G).a es = true) (ha : JA X es (sem G as).a) :
    JE X (.Call (.Name x p) es [] pos) (fun env S R E => (sem G as).a env S (fun ts S1 => sp ts S1 R E) E) := by
  cases es with
  | nil =>
    cases as with
    | nil => exact je_call0 C h g
    | _ => simp [chk, nA] at c
  | cons e1 es => exact je_call C h g (star_all c) ha
theorem sem_sub {scope : Scope} : ∀ u : E, sem (subG G scope) u = sem G u := by
  intro u
  induction u <;> simp only [sem, *] <;> rfl
theorem ok_e : ∀ (u : E) (X : Cx) (G : Gx), CtxOk X G → Ok4 X G u := by
  intro u
  induction u with
  | var i =>
    intro X G C
    refine ok4_val rfl (fun x c => ?_) rfl rfl rfl rfl
    cases x <;> simp only [chk, Bool.false_eq_true] at c
    simp only [Bool.and_eq_true, decide_eq_true_eq, Bool.not_eq_true'] at c
    exact ⟨je_var C c.1.1.1 c.1.1.2 c.1.2 c.2, rfl, rfl⟩
  | int i =>
    intro X G C
    refine ok4_val rfl (fun x c => ?_) rfl rfl rfl rfl
    simp only [chk] at c
    split at c
    · simp only [decide_eq_true_eq] at c; subst c
      exact ⟨je_c pe_int fun _ _ _ => .int _, rfl, rfl⟩
    · cases c
  | bl i =>
    intro X G C
    refine ok4_val rfl (fun x c => ?_) rfl rfl rfl rfl
    simp only [chk] at c
    split at c
    · simp only [decide_eq_true_eq] at c; subst c
      exact ⟨je_c pe_bl fun _ _ _ => .bl _, rfl, rfl⟩
    · cases c
  | non =>
    intro X G C
    refine ok4_val rfl (fun x c => ?_) rfl rfl rfl rfl
    simp only [chk] at c
    split at c
    · exact ⟨je_c pe_non fun _ _ _ => .non, rfl, rfl⟩
    · cases c
  | str i =>
    intro X G C
    refine ok4_val rfl (fun x c => ?_) rfl rfl rfl rfl
    simp only [chk] at c
    split at c
    · simp only [decide_eq_true_eq] at c; subst c
      exact ⟨je_c pe_str fun _ _ _ => .str _, rfl, rfl⟩
    · cases c
  | con k =>
    intro X G C
    refine ok4_val rfl (fun x c => ?_) rfl rfl rfl rfl
    simp only [chk] at c
    split at c
    · simp only [Bool.and_eq_true] at c
      obtain ⟨c1, c2⟩ := c
      split at c1
      · rename_i y t e
        simp only [decide_eq_true_eq] at c1; subst c1
        refine ⟨?_, rfl, rfl⟩
        exact je_con C e c2
      · cases c1
    · cases c
  | bin o a b iha ihb =>
    intro X G C
    refine ok4_val rfl (fun x c => ?_) rfl rfl rfl rfl
    simp only [chk] at c
    split at c
    · simp only [Bool.and_eq_true, decide_eq_true_eq] at c
      obtain ⟨⟨rfl, c1⟩, c2⟩ := c
      exact ⟨je_bin (ok_bin o) ((iha X G C).e _ c1) ((ihb X G C).e _ c2), rfl, rfl⟩
    · cases c
  | neg a iha =>
    intro X G C
    refine ok4_val rfl (fun x c => ?_) rfl rfl rfl rfl
    simp only [chk] at c
    split at c
    · exact ⟨je_neg ((iha X G C).e _ c), rfl, rfl⟩
    · cases c
  | cmp o a b iha ihb =>
    intro X G C
    have key : ∀ x, (chk (.cmp o a b) G).e x = true → JE X x (sem G (.cmp o a b)).e ∧ JT X x (sem G (.cmp o a b)).t ∧ isLc x = false := fun x c => by
      simp only [chk] at c
      split at c
      · simp only [Bool.and_eq_true, decide_eq_true_eq, Bool.not_eq_true'] at c
        obtain ⟨⟨⟨rfl, c0⟩, c1⟩, c2⟩ := c
        exact ⟨je_cmp (ok_cmp C.rm o) c0 ((iha X G C).e _ c1) ((ihb X G C).e _ c2), jt_cmp (ok_cmp C.rm o) c0 ((iha X G C).e _ c1) ((ihb X G C).e _ c2), rfl⟩
      · cases c
    exact ⟨fun x c => (key x c).1, fun x c => (key x c).2.1, fun _ _ _ c => (nomatch c), fun _ c => (nomatch c), fun _ c => (nomatch c), fun _ _ _ c => (nomatch c), fun x c l => by rw [(key x c).2.2] at l; cases l⟩
  | chain o p a b d iha ihb ihd =>
    intro X G C
    have key : ∀ x, (chk (.chain o p a b d) G).e x = true → JE X x (sem G (.chain o p a b d)).e ∧ JT X x (sem G (.chain o p a b d)).t ∧ isLc x = false := fun x c => by
      simp only [chk] at c
      split at c
      · simp only [Bool.and_eq_true, decide_eq_true_eq, Bool.not_eq_true'] at c
        obtain ⟨⟨⟨⟨⟨rfl, rfl⟩, c0⟩, c1⟩, c2⟩, c3⟩ := c
        exact ⟨je_chain (ok_cmp C.rm o) (ok_cmp C.rm p) c0 ((iha X G C).e _ c1) ((ihb X G C).e _ c2) ((ihd X G C).e _ c3), jt_chain (ok_cmp C.rm o) (ok_cmp C.rm p) c0 ((iha X G C).e _ c1) ((ihb X G C).e _ c2) ((ihd X G C).e _ c3), rfl⟩
      · cases c
    exact ⟨fun x c => (key x c).1, fun x c => (key x c).2.1, fun _ _ _ c => (nomatch c), fun _ c => (nomatch c), fun _ c => (nomatch c), fun _ _ _ c => (nomatch c), fun x c l => by rw [(key x c).2.2] at l; cases l⟩
  | one a iha =>
    intro X G C
    refine ⟨fun x c => (nomatch c), fun x c => (nomatch c), fun op es pos c => ?_, fun _ c => (nomatch c), fun _ c => (nomatch c), fun _ _ _ c => (nomatch c), fun x c => (nomatch c)⟩
    simp only [chk] at c
    split at c
    · refine ⟨je_one ((iha X G C).e _ c), ?_⟩
      have j := jw_one (pos := pos) ((iha X G C).t _ c)
      cases op
      · exact j.1
      · exact j.2
    · cases c
  | and a b iha ihb =>
    intro X G C
    have key : ∀ op es pos, (chk (.and a b) G).l op es = true → JE X (.BoolOp op es pos) (sem G (.and a b)).e ∧ JW X (.BoolOp op es pos) (sem G (.and a b)).t := fun op es pos c => by
      simp only [chk] at c
      split at c
      · simp only [Bool.and_eq_true] at c
        have j := (ihb X G C).l _ _ pos c.2
        exact ⟨je_and ((iha X G C).e _ c.1) j.1, jw_and ((iha X G C).t _ c.1) j.2⟩
      · cases c
    have k2 : ∀ x, (chk (.and a b) G).e x = true → ∃ es pos, x = .BoolOp .And es pos ∧ (chk (.and a b) G).l .And es = true := fun x c => by
      simp only [chk] at c
      split at c
      · exact ⟨_, _, rfl, c⟩
      · cases c
    refine ⟨fun x c => ?_, fun x c => ?_, key, fun _ c => (nomatch c), fun _ c => (nomatch c), fun _ _ _ c => (nomatch c), fun x c l => ?_⟩
    · obtain ⟨es, pos, rfl, h⟩ := k2 x c; exact (key _ _ pos h).1
    · obtain ⟨es, pos, rfl, h⟩ := k2 x c; exact fun W tk => ((key _ _ pos h).2 W tk).pt
    · obtain ⟨es, pos, rfl, h⟩ := k2 x c; cases l
  | or a b iha ihb =>
    intro X G C
    have key : ∀ op es pos, (chk (.or a b) G).l op es = true → JE X (.BoolOp op es pos) (sem G (.or a b)).e ∧ JW X (.BoolOp op es pos) (sem G (.or a b)).t := fun op es pos c => by
      simp only [chk] at c
      split at c
      · simp only [Bool.and_eq_true] at c
        have j := (ihb X G C).l _ _ pos c.2
        exact ⟨je_or ((iha X G C).e _ c.1) j.1, jw_or ((iha X G C).t _ c.1) j.2⟩
      · cases c
    have k2 : ∀ x, (chk (.or a b) G).e x = true → ∃ es pos, x = .BoolOp .Or es pos ∧ (chk (.or a b) G).l .Or es = true := fun x c => by
      simp only [chk] at c
      split at c
      · exact ⟨_, _, rfl, c⟩
      · cases c
    refine ⟨fun x c => ?_, fun x c => ?_, key, fun _ c => (nomatch c), fun _ c => (nomatch c), fun _ _ _ c => (nomatch c), fun x c l => ?_⟩
    · obtain ⟨es, pos, rfl, h⟩ := k2 x c; exact (key _ _ pos h).1
    · obtain ⟨es, pos, rfl, h⟩ := k2 x c; exact fun W tk => ((key _ _ pos h).2 W tk).pt
    · obtain ⟨es, pos, rfl, h⟩ := k2 x c; cases l
  | not a iha =>
    intro X G C
    have key : ∀ x, (chk (.not a) G).e x = true → JE X x (sem G (.not a)).e ∧ JT X x (sem G (.not a)).t ∧ isLc x = false := fun x c => by
      simp only [chk] at c
      split at c
      · exact ⟨je_not ((iha X G C).e _ c), jt_not ((iha X G C).t _ c), rfl⟩
      · cases c
    exact ⟨fun x c => (key x c).1, fun x c => (key x c).2.1, fun _ _ _ c => (nomatch c), fun _ c => (nomatch c), fun _ c => (nomatch c), fun _ _ _ c => (nomatch c), fun x c l => by rw [(key x c).2.2] at l; cases l⟩
  | ife k a b ihk iha ihb =>
    intro X G C
    have key : ∀ x, (chk (.ife k a b) G).e x = true → JE X x (sem G (.ife k a b)).e ∧ isLc x = false := fun x c => by
      simp only [chk] at c
      split at c
      · simp only [Bool.and_eq_true] at c
        exact ⟨je_ife ((ihk X G C).t _ c.1.1) ((iha X G C).e _ c.1.2) ((ihb X G C).e _ c.2), rfl⟩
      · cases c
    exact ⟨fun x c => (key x c).1, fun x c => jt_noT, fun _ _ _ c => (nomatch c), fun _ c => (nomatch c), fun _ c => (nomatch c), fun _ _ _ c => (nomatch c), fun x c l => by rw [(key x c).2] at l; cases l⟩
  | tup a iha =>
    intro X G C
    refine ok4_val rfl (fun x c => ?_) rfl rfl rfl rfl
    simp only [chk] at c
    split at c
    · exact ⟨je_tup ((iha X G C).a _ c), rfl, rfl⟩
    · cases c
  | lst a iha =>
    intro X G C
    refine ok4_val rfl (fun x c => ?_) rfl rfl rfl rfl
    simp only [chk] at c
    split at c
    · exact ⟨je_lst ((iha X G C).a _ c), rfl, rfl⟩
    · cases c
  | frz a iha =>
    intro X G C
    refine ⟨fun x c => je_frz ((iha X G C).e x c), fun x c => jt_noT, fun _ _ _ c => (nomatch c), fun _ c => (nomatch c), fun _ c => (nomatch c), fun _ _ _ c => (nomatch c), fun x c l => ?_⟩
    have j := (iha X G C).s x c l
    refine fun y py i spos h1 h2 h3 W tk => ⟨fun pins s σ H D I q => (j y py i spos h1 h2 h3 W tk).run pins s σ H D I ?_⟩
    obtain ⟨z, env, S, R, E, he, hr, hw, hR, hE⟩ := q
    exact ⟨z, env, S, _, E, he, hr, hw, fun x S1 v H1 x1 r1 t1 q1 => (lQ.on hR x1).frz r1 t1 q1, hE⟩
  | nil =>
    intro X G C
    refine ⟨fun x c => (nomatch c), fun x c => (nomatch c), fun _ _ _ c => (nomatch c), fun es c => ?_, fun _ c => (nomatch c), fun _ _ _ c => (nomatch c), fun x c => (nomatch c)⟩
    simp only [chk] at c
    split at c
    · exact ⟨ja_nil, jp_nil⟩
    · cases c
  | cons a as iha ihas =>
    intro X G C
    refine ⟨fun x c => (nomatch c), fun x c => (nomatch c), fun _ _ _ c => (nomatch c), fun es c => ?_, fun ox c => ?_, fun _ _ _ c => (nomatch c), fun x c => (nomatch c)⟩
    · simp only [chk] at c
      split at c
      · simp only [Bool.and_eq_true] at c
        exact ⟨ja_cons c.1.1 ((iha X G C).e _ c.1.2) ((ihas X G C).a _ c.2), jp_cons ((iha X G C).e _ c.1.2) ((ihas X G C).ap _ c.2).2⟩
      · cases c
    · simp only [chk] at c
      split at c
      · simp only [Bool.and_eq_true] at c
        obtain ⟨c1, c2⟩ := c
        cases as with
        | nil => exact jo_some ((iha X G C).e _ c2)
        | _ => cases c1
      · cases c
  | ix a b iha ihb =>
    intro X G C
    refine ok4_val rfl (fun x c => ?_) rfl rfl rfl rfl
    simp only [chk] at c
    split at c
    · simp only [Bool.and_eq_true, Bool.not_eq_true'] at c
      exact ⟨je_ix c.1.1 ((iha X G C).e _ c.1.2) ((ihb X G C).e _ c.2), rfl, rfl⟩
    · cases c
  | sl a lo hi iha ihl ihh =>
    intro X G C
    refine ok4_val rfl (fun x c => ?_) rfl rfl rfl rfl
    simp only [chk] at c
    split at c
    · simp only [Bool.and_eq_true] at c
      exact ⟨je_sl ((iha X G C).e _ c.1.1) ((ihl X G C).o _ c.1.2) ((ihh X G C).o _ c.2), rfl, rfl⟩
    · cases c
  | nop =>
    intro X G C
    refine ⟨fun x c => (nomatch c), fun x c => (nomatch c), fun _ _ _ c => (nomatch c), fun es c => (nomatch c), fun ox c => ?_, fun _ _ _ c => (nomatch c), fun x c => (nomatch c)⟩
    simp only [chk] at c
    split at c
    · exact jo_none
    · cases c
  | revl a iha =>
    intro X G C
    refine ok4_val rfl (fun x c => ?_) rfl rfl rfl rfl
    simp only [chk] at c
    split at c
    · exact ⟨je_revl ((iha X G C).e _ c), rfl, rfl⟩
    · cases c
  | call k as ihas =>
    intro X G C
    refine ok4_val rfl (fun x c => ?_) rfl rfl rfl rfl
    simp only [chk] at c
    split at c
    · simp only [Bool.and_eq_true] at c
      obtain ⟨⟨c1, c2⟩, c3⟩ := c
      split at c1
      · rename_i es pos y sp e
        simp only [decide_eq_true_eq] at c1; subst c1
        refine ⟨?_, rfl, rfl⟩
        exact je_callE C (C.fn _ _ _ e) c2 c3 ((ihas X G C).a _ c3)
      · cases c1
    · cases c
  | blt b as ihas =>
    intro X G C
    refine ok4_val rfl (fun x c => ?_) rfl rfl rfl rfl
    simp only [chk] at c
    split at c
    · simp only [Bool.and_eq_true, decide_eq_true_eq] at c
      obtain ⟨⟨⟨c1, c2⟩, c3⟩, c4⟩ := c
      refine ⟨je_blt C c1 ?_ c3 (star_all c4) ((ihas X G C).a _ c4), rfl, rfl⟩
      cases b <;> simpa using c2
    · cases c
  | isi a y iha =>
    intro X G C
    refine ok4_val rfl (fun x c => ?_) rfl rfl rfl rfl
    simp only [chk] at c
    split at c
    · simp only [Bool.and_eq_true, decide_eq_true_eq] at c
      obtain ⟨⟨⟨⟨⟨⟨c1, c2⟩, c3⟩, c4⟩, c5⟩, c6⟩, c7⟩ := c
      exact ⟨je_isi C c1 c2 c3 c4 c5 c6 ((iha X G C).e _ c7), rfl, rfl⟩
    · cases c
  | isT a ys iha =>
    intro X G C
    refine ok4_val rfl (fun x c => ?_) rfl rfl rfl rfl
    simp only [chk] at c
    split at c
    · simp only [Bool.and_eq_true, decide_eq_true_eq] at c
      obtain ⟨⟨⟨⟨⟨c1, c2⟩, c3⟩, c4⟩, c5⟩, c6⟩ := c
      exact ⟨je_isT C c1 c2 c3 c4 c5 ((iha X G C).e _ c6), rfl, rfl⟩
    · cases c
  | mth m o as iho ihas =>
    intro X G C
    refine ok4_val rfl (fun x c => ?_) rfl rfl rfl rfl
    simp only [chk] at c
    split at c
    · simp only [Bool.and_eq_true, decide_eq_true_eq] at c
      obtain ⟨⟨⟨⟨⟨c1, c2⟩, c3⟩, c4⟩, c5⟩, c6⟩ := c
      refine ⟨?_, rfl, rfl⟩
      rename_i x' f' apos es cpos
      cases es with
      | nil =>
        cases as with
        | nil => exact je_mth0 c1 c2 c3 ((iho X G C).e _ c5)
        | _ => simp [chk, nA] at c6
      | cons e1 es => exact je_mth c1 c2 c3 c4 (star_all c6) ((iho X G C).e _ c5) ((ihas X G C).a _ c6)
    · cases c
  | dget o k iho =>
    intro X G C
    refine ok4_val rfl (fun x c => ?_) rfl rfl rfl rfl
    simp only [chk] at c
    split at c
    · simp only [Bool.and_eq_true, decide_eq_true_eq] at c
      obtain ⟨rfl, c2⟩ := c
      exact ⟨je_dget C.rm ((iho X G C).e _ c2), rfl, rfl⟩
    · cases c
  | dnew =>
    intro X G C
    refine ok4_val rfl (fun x c => ?_) rfl rfl rfl rfl
    simp only [chk] at c
    split at c
    · exact ⟨je_dnew, rfl, rfl⟩
    · cases c
  | ddis ks a iha =>
    intro X G C
    refine ok4_val rfl (fun x c => ?_) rfl rfl rfl rfl
    simp only [chk] at c
    split at c
    · simp only [Bool.and_eq_true, decide_eq_true_eq] at c
      obtain ⟨⟨⟨⟨c1, c2⟩, c3⟩, c4⟩, c5⟩ := c
      exact ⟨je_ddis ((iha X G C).ap _ c5).2 c1 c2 c3 c4, rfl, rfl⟩
    · cases c
  | iA a iha =>
    intro X G C
    refine ok4_itr rfl (fun tg x n c => ?_) rfl rfl rfl rfl
    simp only [chk, Bool.and_eq_true] at c
    exact ji_a ((iha X G C).e _ c.2)
  | iR1 a iha =>
    intro X G C
    refine ok4_itr rfl (fun tg x n c => ?_) rfl rfl rfl rfl
    simp only [chk] at c
    split at c
    · simp only [Bool.and_eq_true, decide_eq_true_eq] at c
      obtain ⟨⟨⟨c1, c2⟩, c3⟩, c4⟩ := c
      exact ji_r1 C c1 c2 c3 ((iha X G C).e _ c4)
    · cases c
  | iR2 a b iha ihb =>
    intro X G C
    refine ok4_itr rfl (fun tg x n c => ?_) rfl rfl rfl rfl
    simp only [chk] at c
    split at c
    · simp only [Bool.and_eq_true, decide_eq_true_eq] at c
      obtain ⟨⟨⟨⟨⟨c1, c2⟩, c3⟩, c4⟩, c5⟩, c6⟩ := c
      exact ji_r2 C c1 c2 c3 c4 ((iha X G C).e _ c5) ((ihb X G C).e _ c6)
    · cases c
  | iR3 a b d iha ihb ihd =>
    intro X G C
    refine ok4_itr rfl (fun tg x n c => ?_) rfl rfl rfl rfl
    simp only [chk] at c
    split at c
    · simp only [Bool.and_eq_true, decide_eq_true_eq] at c
      obtain ⟨⟨⟨⟨⟨⟨⟨c1, c2⟩, c3⟩, c4⟩, c5⟩, c6⟩, c7⟩, c8⟩ := c
      exact ji_r3 C c1 c2 c3 c4 c5 ((iha X G C).e _ c6) ((ihb X G C).e _ c7) ((ihd X G C).e _ c8)
    · cases c
  | iZ a b iha ihb =>
    intro X G C
    refine ok4_itr rfl (fun tg x n c => ?_) rfl rfl rfl rfl
    have tt := n rfl
    cases tg with
    | Tuple es kk tp =>
      simp only [chk] at c
      split at c
      · simp only [Bool.and_eq_true, decide_eq_true_eq] at c
        obtain ⟨⟨⟨⟨⟨c1, c2⟩, c3⟩, c4⟩, c5⟩, c6⟩ := c
        exact ji_z C c1 c2 c3 c4 ((iha X G C).e _ c5) ((ihb X G C).e _ c6)
      · cases c
    | _ => cases tt
  | iE a iha =>
    intro X G C
    refine ok4_itr rfl (fun tg x n c => ?_) rfl rfl rfl rfl
    have tt := n rfl
    cases tg with
    | Tuple es kk tp =>
      simp only [chk] at c
      split at c
      · simp only [Bool.and_eq_true, decide_eq_true_eq] at c
        obtain ⟨⟨⟨c1, c2⟩, c3⟩, c4⟩ := c
        exact ji_e C c1 c2 c3 ((iha X G C).e _ c4)
      · cases c
    | _ => cases tt
  | lc own g it el ihi ihe =>
    intro X G C
    have key : ∀ x, (chk (.lc own g it el) G).e x = true → (JE X x (sem G (.lc own g it el)).e ∧ JSet X x (sem G (.lc own g it el)).e) ∧ plainT x = true := fun x c => by
      simp only [chk] at c
      split at c
      · simp only [Bool.and_eq_true] at c
        obtain ⟨⟨⟨⟨⟨⟨⟨c1, c2⟩, c3⟩, c4⟩, c5⟩, c6⟩, c7⟩, c8⟩ := c
        refine ⟨lc_parts C c1 c2 ((ihi X G C).i _ _ (fun n => ?_) c4) c5 c6 c7 (fun {X'} C' hk => ?_) (fun {X'} C' hk => ?_), rfl⟩
        · rw [n] at c3; simpa using c3
        · rw [← hk]; exact pts_yes
        · rw [← hk, ← sem_sub (scope := _) el]; exact (ihe X' _ C').e _ c8 _ takes0
      · cases c
    exact ⟨fun x c => (key x c).1.1, fun x c => jt_of (key x c).1.1 (key x c).2, fun _ _ _ c => (nomatch c), fun _ c => (nomatch c), fun _ c => (nomatch c), fun _ _ _ c => (nomatch c), fun x c _ => (key x c).1.2⟩
  | lci own g it cd el ihi ihc ihe =>
    intro X G C
    have key : ∀ x, (chk (.lci own g it cd el) G).e x = true → (JE X x (sem G (.lci own g it cd el)).e ∧ JSet X x (sem G (.lci own g it cd el)).e) ∧ plainT x = true := fun x c => by
      simp only [chk] at c
      split at c
      · simp only [Bool.and_eq_true] at c
        obtain ⟨⟨⟨⟨⟨⟨⟨⟨c1, c2⟩, c3⟩, c4⟩, c5⟩, c6⟩, c7⟩, c8⟩, c9⟩ := c
        refine ⟨lc_parts C c1 c2 ((ihi X G C).i _ _ (fun n => ?_) c4) c5 c6 c7 (fun {X'} C' hk => ?_) (fun {X'} C' hk => ?_), rfl⟩
        · rw [n] at c3; simpa using c3
        · rw [← hk, ← sem_sub (scope := _) cd]; exact pts_one ((ihc X' _ C').t _ c8 _ takes0)
        · rw [← hk, ← sem_sub (scope := _) el]; exact (ihe X' _ C').e _ c9 _ takes0
      · cases c
    exact ⟨fun x c => (key x c).1.1, fun x c => jt_of (key x c).1.1 (key x c).2, fun _ _ _ c => (nomatch c), fun _ c => (nomatch c), fun _ c => (nomatch c), fun _ _ _ c => (nomatch c), fun x c _ => (key x c).1.2⟩
  | lc2 own g it own1 g1 it1 cd el ihi ihi1 ihc ihe =>
    intro X G C
    have key : ∀ x, (chk (.lc2 own g it own1 g1 it1 cd el) G).e x = true → (JE X x (sem G (.lc2 own g it own1 g1 it1 cd el)).e ∧ JSet X x (sem G (.lc2 own g it own1 g1 it1 cd el)).e) ∧ plainT x = true := fun x c => by
      simp only [chk] at c
      split at c
      · rename_i elt tg iter tg1 iter1 ifs1 scope pos
        simp only [Bool.and_eq_true] at c
        obtain ⟨⟨⟨⟨⟨⟨⟨⟨⟨⟨⟨⟨⟨⟨c1, c2⟩, c3⟩, c3'⟩, c4⟩, c5⟩, c5'⟩, c6⟩, c6'⟩, c6v⟩, c7⟩, c7'⟩, c4'⟩, cc⟩, c8⟩ := c
        have cX : X.calm = true := by rw [C.calm]; exact c1
        have nd : X.N.Nodup := by rw [C.hN]; exact C.nd
        have ok : BlkOk X.N X.env.scope scope own := by rw [C.hN, C.sc]; exact blkOk_by c2
        have sl : ∀ j ∈ slotsG g, j ∈ own.map (·.2) := fun j hj => by
          have := List.all_eq_true.mp c6 j hj
          simpa using this
        have sl1 : ∀ j ∈ slotsG g1, j ∈ own1 := fun j hj => by
          have := List.all_eq_true.mp c6' j hj
          simpa using this
        have sv : ∀ j ∈ own1, j ∈ own.map (·.2) := fun j hj => by
          have := List.all_eq_true.mp c6v j hj
          simpa using this
        have hi := (ihi X G C).i tg iter (fun n => by rw [n] at c3; simpa using c3) c4
        have ht : ∀ {X' : Cx}, CtxOk X' (subG G scope) → X'.K = X.K → PTs X' ifs1 (lT X.K (fun _ _ _ _ => False) (sem G cd).t) := fun {X'} C' hk => by
          rw [← hk]
          split at cc
          · cases cd <;> first | exact pts_yes | cases cc
          · rw [← sem_sub (scope := scope) cd]
            exact pts_one ((ihc X' _ C').t _ cc _ takes0)
          · cases cc
        have hi1 : ∀ {X' : Cx}, CtxOk X' (subG G scope) → X'.K = X.K → PI X' tg1 iter1 (lI X.K (fun _ _ _ _ => False) (sem G it1).i) := fun {X'} C' hk => by
          rw [← hk, ← sem_sub (scope := scope) it1]
          exact (ihi1 X' _ C').i tg1 iter1 (fun n => by rw [n] at c3'; simpa using c3') c4' _ takes0
        have he : ∀ {X' : Cx}, CtxOk X' (subG G scope) → X'.K = X.K → PE X' elt (lE X.K (fun _ _ _ _ => False) (sem G el).e) := fun {X'} C' hk => by
          rw [← hk, ← sem_sub (scope := scope) el]
          exact (ihe X' _ C').e _ c8 _ takes0
        have ht0 : ∀ {X' : Cx}, CtxOk X' (subG G scope) → X'.K = X.K → PTs X' [] (lT X.K (fun _ _ _ _ => False) fun _ S R _ => R true S) := fun {X'} C' hk => by rw [← hk]; exact pts_yes
        refine ⟨⟨fun W tk => ?_, fun y py i spos hN hy hs W tk => ?_⟩, rfl⟩
        · refine pe_imp (pe_lc2 (g := lTg X.K g) (g1 := lTg X.K g1) (wi1 := lI X.K (fun _ _ _ _ => False) (sem G it1).i) (tt := lT X.K (fun _ _ _ _ => False) fun _ S R _ => R true S) (tt1 := lT X.K (fun _ _ _ _ => False) (sem G cd).t) (te := lE X.K (fun _ _ _ _ => False) (sem G el).e) cX nd (hi W tk) ok sv (fun s H Cd cl fp => pg_ok C.blk g tg c7) (fun s H Cd cl fp => ht0 C.blk rfl) (fun s H Cd cl fp => hi1 C.blk rfl) (fun s H Cd cl fp => pg_ok C.blk g1 tg1 c7') (fun s H Cd cl fp => ht C.blk rfl) (fun s H Cd cl fp => he C.blk rfl) (fold_e c5) (fun env => fold_e c5')) fun σ H Q q => ?_
          exact lc2_read sl sl1 q
        · have p := ps_setLc2 (g := lTg X.K g) (g1 := lTg X.K g1) (wi1 := lI X.K (fun _ _ _ _ => False) (sem G it1).i) (tt := lT X.K (fun _ _ _ _ => False) fun _ S R _ => R true S) (tt1 := lT X.K (fun _ _ _ _ => False) (sem G cd).t) (te := lE X.K (fun _ _ _ _ => False) (sem G el).e) (i := i) (py := py) (spos := spos) (pos := pos) cX nd hN hy hs (hi W tk) ok sv (fun s H Cd cl fp => pg_ok C.blk g tg c7) (fun s H Cd cl fp => ht0 C.blk rfl) (fun s H Cd cl fp => hi1 C.blk rfl) (fun s H Cd cl fp => pg_ok C.blk g1 tg1 c7') (fun s H Cd cl fp => ht C.blk rfl) (fun s H Cd cl fp => he C.blk rfl) (fold_e c5) (fun env => fold_e c5')
          exact ⟨fun pins s σ H D I q => p.run pins s σ H D I (lc2_read sl sl1 q)⟩
      · cases c
    exact ⟨fun x c => (key x c).1.1, fun x c => jt_of (key x c).1.1 (key x c).2, fun _ _ _ c => (nomatch c), fun _ c => (nomatch c), fun _ c => (nomatch c), fun _ _ _ c => (nomatch c), fun x c _ => (key x c).1.2⟩
end
end TP

set_option maxHeartbeats 4000000
namespace TP
open PySem PySem.Spec PyProof.Rows L2

/-! ### statements -/
inductive Stm where
  | nil | cons (s r : Stm)
  | expr (e : E) | ret (e : E) | retN | ifs (c : E) (a b : Stm) | asg (g : Tg) (e : E) | par (is : List Nat) (as : E)
  | subL (o i e : E) | subD (o : E) (k : Str) (e : E) | aug (i : Nat) (o : Bo) (e : E)
  | for_ (g : Tg) (it : E) (b : Stm) | while_ (c : E) (b : Stm) | raise (k : Nat) | try_ (b : Stm) (k : Nat) (s : Stm)
  | pass | brk | cnt
structure En where
  nx : Env → Sto → Prop
  rt : RP
  bk : Env → Sto → Prop := fun _ _ => False
  ct : Env → Sto → Prop := fun _ _ => False
  xx : Env → XP := fun _ _ _ => False
def setAll : Env → List Nat → List T → Env
  | env, i :: is, t :: ts => setAll (env.set i (some t)) is ts
  | env, _, _ => env
def oSetL (x y v : T) (S : Sto) (k : Sto → Prop) : Prop := match x, y with
  | .ref a, .int i => match S a with
    | some (.lst ts) => ∃ j, ixN ts.length i = some j ∧ k (up S a (.lst (ts.set j v)))
    | _ => False
  | _, _ => False
def oSetD (x : T) (key : Key) (v : T) (S : Sto) (k : Sto → Prop) : Prop := match x with
  | .ref a => match S a with
    | some (.dct kvs) => kvs.length < sizeLine ∧ k (up S a (.dct (dput kvs key v)))
    | _ => False
  | _ => False
def oAug (o : Bo) (x y : T) (S : Sto) (R : RP) : Prop := match o, x, y with
  | .add, .int i, .int j => R (.int (i + j)) S
  | .sub, .int i, .int j => R (.int (i - j)) S
  | _, _, _ => False
def wFor (g : Tg) (body : Env → Sto → En → Prop) (gd : Sto → Prop) : List T → Env → Sto → En → Prop
  | [], env, S, D => gd S ∧ D.nx env S
  | t :: ts, env, S, D => gd S ∧ gT g t env S fun env' => body env' S { D with nx := fun e s => wFor g body gd ts e s D, ct := fun e s => wFor g body gd ts e s D, bk := D.nx }
/-- within an except suite: no calls of defs, no loops, nothing raised -/
def hotG (G : Gx) : Gx := { G with calm := false, fns := [], exs := [] }
def wS : Stm → Gx → Env → Sto → En → Prop
  | .nil, G, env, S, D => D.nx env S
  | .cons s r, G, env, S, D => wS s G env S { D with nx := fun e' S' => wS r G e' S' D }
  | .expr e, G, env, S, D => (sem G e).e env S (fun _ S1 => D.nx env S1) (D.xx env)
  | .ret e, G, env, S, D => (sem G e).e env S D.rt (D.xx env)
  | .retN, G, _, S, D => D.rt .non S
  | .ifs c a b, G, env, S, D => (sem G c).t env S (fun k S1 => if k = true then wS a G env S1 D else wS b G env S1 D) (D.xx env)
  | .asg g e, G, env, S, D => (sem G e).e env S (fun t S1 => gT g t env S1 fun env' => D.nx env' S1) (D.xx env)
  | .par is as, G, env, S, D => (sem G as).a env S (fun ts S1 => ts.length = is.length ∧ D.nx (setAll env is ts) S1) (D.xx env)
  | .subL o i e, G, env, S, D => (sem G e).e env S (fun v S1 => (sem G o).e env S1 (fun x S2 => (sem G i).e env S2 (fun y S3 => oSetL x y v S3 fun S4 => D.nx env S4) (D.xx env)) (D.xx env)) (D.xx env)
  | .subD o k e, G, env, S, D => (sem G e).e env S (fun v S1 => (sem G o).e env S1 (fun x S2 => oSetD x (.inr k) v S2 fun S4 => D.nx env S4) (D.xx env)) (D.xx env)
  | .aug i o e, G, env, S, D => match env[i]? with
    | some (some x) => (sem G e).e env S (fun y S1 => oAug o x y S1 fun r S2 => D.nx (env.set i (some r)) S2) (D.xx env)
    | _ => False
  | .for_ g it b, G, env, S, D => (sem G it).i env S (fun ts gd S1 => wFor g (wS b G) gd ts env S1 D) (D.xx env)
  | .while_ c b, G, env, S, D => ∃ W : Nat → Env → Sto → Prop, (∃ m, W m env S) ∧ ∀ m env S, W m env S → (sem G c).t env S (fun k S1 => if k = true then
      wS b G env S1 { D with nx := fun e s => ∃ m', m' < m ∧ W m' e s, ct := fun e s => ∃ m', m' < m ∧ W m' e s, bk := D.nx } else D.nx env S1) (D.xx env)
  | .raise k, G, env, S, D => match G.exs[k]? with
    | some (_, C) => D.xx env ⟨.ref C, none⟩ S
    | none => False
  | .try_ b k s, G, env, S, D => match G.exs[k]? with
    | some (_, C) => wS b G env S { D with xx := fun e' x S' => ∃ m, G.exm x.cls (.ref C) = some m ∧ if m = true then wS s (hotG G) e' S' { D with xx := fun _ _ _ => False } else D.xx e' x S' }
    | none => False
  | .pass, G, env, S, D => D.nx env S
  | .brk, G, env, S, D => D.bk env S
  | .cnt, G, env, S, D => D.ct env S
def lS (K : PySem.W.Frag) (W : WX) (w : Env → Sto → En → Prop) : TS := fun D σ H => ∃ z env S d, EnvR K z H S env σ ∧ HR K z H S ∧ w env S d ∧
  (∀ e S' σ' H', Ext H S H' S' → HR K z H' S' → EnvR K z H' S' e σ' → d.nx e S' → D.nx σ' H') ∧
  (∀ t S' v H', Ext H S H' S' → HR K z H' S' → RT K z H' S' t v → d.rt t S' → D.rt v H') ∧
  (∀ e S' σ' H', Ext H S H' S' → HR K z H' S' → EnvR K z H' S' e σ' → d.bk e S' → D.bk σ' H') ∧
  (∀ e S' σ' H', Ext H S H' S' → HR K z H' S' → EnvR K z H' S' e σ' → d.ct e S' → D.ct σ' H') ∧
  ∀ e x S' σ' c a H', Ext H S H' S' → HR K z H' S' → EnvR K z H' S' e σ' → XRel K z H' S' x c a → d.xx e x S' → W c a σ' H'
structure Frm (X : Cx) : Prop where
  st : X.stack = X.env :: X.outer
  fr : X.env.frame = some X.env.locals
def JS (X : Cx) (st : Stmt) (w : Env → Sto → En → Prop) : Prop := Frm X → PassesOwn (model X.prog X.w) X.A X.env X.xe → ∀ W, Takes X W → PS X st (lS X.K W w)
def JB (X : Cx) (st : List Stmt) (w : Env → Sto → En → Prop) : Prop := Frm X → PassesOwn (model X.prog X.w) X.A X.env X.xe → ∀ W, Takes X W → PSs X st (lS X.K W w)
theorem ps_imp {X : Cx} {e : Stmt} {t t' : TS} (h : PS X e t) (i : ∀ D σ H, t' D σ H → t D σ H) : PS X e t' := ⟨fun pins s σ H D I q => h.run pins s σ H D I (i D σ H q)⟩
theorem pss_imp {X : Cx} {e : List Stmt} {t t' : TS} (h : PSs X e t) (i : ∀ D σ H, t' D σ H → t D σ H) : PSs X e t' := ⟨fun pins s σ H D I q => h.run pins s σ H D I (i D σ H q)⟩
/-- what of a state behind another one is wanted -/
structure Wnt (K : PySem.W.Frag) (W : WX) (z : Addr → Prop) (H : Hp) (S : Sto) (d : En) (D : Ends) : Prop where
  nx : ∀ e S' σ' H', Ext H S H' S' → HR K z H' S' → EnvR K z H' S' e σ' → d.nx e S' → D.nx σ' H'
  rt : ∀ t S' v H', Ext H S H' S' → HR K z H' S' → RT K z H' S' t v → d.rt t S' → D.rt v H'
  bk : ∀ e S' σ' H', Ext H S H' S' → HR K z H' S' → EnvR K z H' S' e σ' → d.bk e S' → D.bk σ' H'
  ct : ∀ e S' σ' H', Ext H S H' S' → HR K z H' S' → EnvR K z H' S' e σ' → d.ct e S' → D.ct σ' H'
  xx : ∀ e x S' σ' c a H', Ext H S H' S' → HR K z H' S' → EnvR K z H' S' e σ' → XRel K z H' S' x c a → d.xx e x S' → W c a σ' H'
theorem lS.of {K : PySem.W.Frag} {W : WX} {w : Env → Sto → En → Prop} {D : Ends} {σ : L2.St} {H : Hp} (h : lS K W w D σ H) : ∃ z env S d, EnvR K z H S env σ ∧ HR K z H S ∧ w env S d ∧ Wnt K W z H S d D := by
  obtain ⟨z, env, S, d, a, b, c, h1, h2, h3, h4, h5⟩ := h
  exact ⟨z, env, S, d, a, b, c, h1, h2, h3, h4, h5⟩
theorem lS.mk {K : PySem.W.Frag} {W : WX} {w : Env → Sto → En → Prop} {D : Ends} {σ : L2.St} {H : Hp} {z : Addr → Prop} {env : Env} {S : Sto} {d : En} (a : EnvR K z H S env σ) (b : HR K z H S) (c : w env S d) (k : Wnt K W z H S d D) : lS K W w D σ H :=
  ⟨z, env, S, d, a, b, c, k.nx, k.rt, k.bk, k.ct, k.xx⟩
section
variable {K : PySem.W.Frag} {W : WX} {z : Addr → Prop} {H H1 : Hp} {S S1 : Sto} {d : En} {D : Ends} {env : Env} {σ : L2.St}
theorem Wnt.on (k : Wnt K W z H S d D) (x : Ext H S H1 S1) : Wnt K W z H1 S1 d D where
  nx := fun e S' σ' H' x2 => k.nx e S' σ' H' (x.trans x2)
  rt := fun t S' v H' x2 => k.rt t S' v H' (x.trans x2)
  bk := fun e S' σ' H' x2 => k.bk e S' σ' H' (x.trans x2)
  ct := fun e S' σ' H' x2 => k.ct e S' σ' H' (x.trans x2)
  xx := fun e x' S' σ' c a H' x2 => k.xx e x' S' σ' c a H' (x.trans x2)
/-- the exceptions of an expression -/
theorem Wnt.ex (k : Wnt K W z H S d D) (he : EnvR K z H S env σ) : lX K z H S (d.xx env) fun c a H' => W c a σ H' := fun x S' c a H' x1 r1 xr q => k.xx env x S' σ c a H' x1 r1 (he.mn x1) xr q
end
section
variable {X : Cx} {G : Gx}
theorem js_expr {e : Expr} {pos : Pos} {w : WE1} (h : JE X e w) (hs : swapsWith e none pos.line X.env = pure false) : JS X (.Expr e pos) (fun env S D => w env S (fun _ S1 => D.nx env S1) (D.xx env)) := fun fm ho W tk =>
  ps_imp (ps_expr (h W tk) hs) fun D σ H q => by
  obtain ⟨z, env, S, d, he, hr, hw, k⟩ := q.of
  exact ⟨z, env, S, _, _, he, hr, hw, fun x S1 v H1 x1 r1 t1 q1 => k.nx _ _ _ _ x1 r1 (he.mn x1) q1, k.ex he⟩
theorem js_ret {e : Expr} {pos : Pos} {w : WE1} (h : JE X e w) : JS X (.Return (some e) pos) (fun env S D => w env S D.rt (D.xx env)) := fun fm ho W tk =>
  ps_imp (ps_ret (h W tk)) fun D σ H q => by
  obtain ⟨z, env, S, d, he, hr, hw, k⟩ := q.of
  exact ⟨z, env, S, _, _, he, hr, hw, fun x S1 v H1 x1 r1 t1 q1 => k.rt _ _ _ _ x1 r1 t1 q1, k.ex he⟩
theorem js_retN {pos : Pos} : JS X (.Return none pos) (fun _ S D => D.rt .non S) := fun fm ho W tk =>
  ps_imp ps_retN fun D σ H q => by
  obtain ⟨z, env, S, d, he, hr, hw, k⟩ := q.of
  exact k.rt _ _ _ _ (Ext.refl _ _) hr .non hw
theorem js_pass {pos : Pos} : JS X (.Pass pos) (fun env S D => D.nx env S) := fun fm ho W tk =>
  ps_imp ps_pass fun D σ H q => by
  obtain ⟨z, env, S, d, he, hr, hw, k⟩ := q.of
  exact k.nx _ _ _ _ (Ext.refl _ _) hr he hw
theorem js_brk {pos : Pos} : JS X (.Break pos) (fun env S D => D.bk env S) := fun fm ho W tk =>
  ps_imp ps_break fun D σ H q => by
  obtain ⟨z, env, S, d, he, hr, hw, k⟩ := q.of
  exact k.bk _ _ _ _ (Ext.refl _ _) hr he hw
theorem js_cnt {pos : Pos} : JS X (.Continue pos) (fun env S D => D.ct env S) := fun fm ho W tk =>
  ps_imp ps_continue fun D σ H q => by
  obtain ⟨z, env, S, d, he, hr, hw, k⟩ := q.of
  exact k.ct _ _ _ _ (Ext.refl _ _) hr he hw
theorem js_doc {x : Str} {j : Nat} {p p2 : Pos} : JS X (.Expr (.Constant (.str x) j p) p2) (fun env S D => D.nx env S) := fun fm ho W tk =>
  ps_imp ps_doc fun D σ H q => by
  obtain ⟨z, env, S, d, he, hr, hw, k⟩ := q.of
  exact k.nx _ _ _ _ (Ext.refl _ _) hr he hw
theorem js_if {c : Expr} {a b : List Stmt} {pos : Pos} {wc : WT1} {wa wb : Env → Sto → En → Prop} (hc : JT X c wc) (ha : JB X a wa) (hb : JB X b wb) : JS X (.If c a b pos) (fun env S D => wc env S (fun k S1 => if k = true then wa env S1 D else wb env S1 D) (D.xx env)) := fun fm ho W tk =>
  ps_imp (ps_if (hc W tk) (ha fm ho W tk) (hb fm ho W tk)) fun D σ H q => by
  obtain ⟨z, env, S, d, he, hr, hw, k⟩ := q.of
  refine ⟨z, env, S, _, _, he, hr, hw, fun x S1 v H1 x1 r1 t1 q1 => ?_, k.ex he⟩
  subst t1
  split at q1
  · rename_i hx
    rw [if_pos hx]
    exact lS.mk (he.mn x1) r1 q1 (k.on x1)
  · rename_i hx
    rw [if_neg hx]
    exact lS.mk (he.mn x1) r1 q1 (k.on x1)
theorem jb_nil : JB X [] (fun env S D => D.nx env S) := fun fm ho W tk => pss_imp pss_nil fun D σ H q => by
  obtain ⟨z, env, S, d, he, hr, hw, k⟩ := q.of
  exact k.nx _ _ _ _ (Ext.refl _ _) hr he hw
theorem jb_cons {s : Stmt} {r : List Stmt} {ws wr : Env → Sto → En → Prop} (hs : JS X s ws) (hb : JB X r wr) : JB X (s :: r) (fun env S D => ws env S { D with nx := fun e' S' => wr e' S' D }) := fun fm ho W tk =>
  pss_imp (pss_cons (hs fm ho W tk) (hb fm ho W tk)) fun D σ H q => by
  obtain ⟨z, env, S, d, he, hr, hw, k⟩ := q.of
  refine lS.mk he hr hw ⟨fun e S' σ' H' x1 r1 e1 q1 => ?_, k.rt, k.bk, k.ct, k.xx⟩
  exact lS.mk e1 r1 q1 (k.on x1)
theorem js_asg (C : CtxOk X G) {tg e : Expr} {g : Tg} {pos : Pos} {w : WE1} (h : JE X e w) (hg : chkG G g tg = true) (hs : swapsWithSole [tg] e pos.line X.env = pure false) (hw : swappedStores [tg] e X.env = pure none) (ns : notStar tg = true) :
    JS X (.Assign [tg] e pos) (fun env S D => w env S (fun t S1 => gT g t env S1 fun env' => D.nx env' S1) (D.xx env)) := fun fm ho W tk =>
  ps_imp (ps_asg (h W tk) (pg_ok C g tg hg) hs hw (by rw [asg_e ns]; rfl)) fun D σ H q => by
  obtain ⟨z, env, S, d, he, hr, hw, k⟩ := q.of
  refine ⟨z, env, S, _, _, he, hr, hw, fun x S1 v H1 x1 r1 t1 q1 => ?_, k.ex he⟩
  exact ⟨z, env, S1, x, _, he.mn x1, r1, t1, q1, fun env' σ' he' _ q2 => k.nx _ _ _ _ x1 r1 he' q2⟩
theorem js_set (C : CtxOk X G) {x : Str} {e : Expr} {i : Nat} {p pos : Pos} {w : WE1} (h : JE X e w) (hg : chkG G (.nm i) (.Name x p) = true) (hs : swapsWith e (some (.Name x p)) pos.line X.env = pure false) :
    JS X (.Assign [.Name x p] e pos) (fun env S D => w env S (fun t S1 => gT (.nm i) t env S1 fun env' => D.nx env' S1) (D.xx env)) := fun fm ho W tk => by
  simp only [chkG, Bool.and_eq_true, Bool.or_eq_true, decide_eq_true_eq] at hg
  have lc : Loc X.env.scope x := by
    show X.env.scope.names.lookup x = _ ∨ X.env.scope.names.lookup x = _
    rw [C.sc]
    rcases hg.2 with q | q
    · exact .inl q
    · exact .inr q.2
  have fx : X.fn x = true ∨ X.env.scope.names.lookup x = some .local := by
    rw [C.sc]
    rcases hg.2 with q | q
    · exact .inr q
    · exact .inl (C.cel x (by simpa using q.1))
  refine ps_imp (ps_set (i := i) (by rw [C.hN]; exact C.nd) (by rw [C.hN]; exact hg.1) lc (h W tk) hs fx) fun D σ H q => ?_
  obtain ⟨z, env, S, d, he, hr, hw, k⟩ := q.of
  exact ⟨z, env, S, _, _, he, hr, hw, fun x S1 v H1 x1 r1 t1 q1 => k.nx _ _ _ _ x1 r1 ((he.mn x1).set i t1) q1, k.ex he⟩
theorem js_setL (C : CtxOk X G) {x : Str} {e : Expr} {i : Nat} {p pos : Pos} {w : WE1} (h : JSet X e w) (hn : G.N[i]? = some x) (hl : G.sc.names.lookup x = some .local) (hs : swapsWith e (some (.Name x p)) pos.line X.env = pure true) :
    JS X (.Assign [.Name x p] e pos) (fun env S D => w env S (fun t S1 => gT (.nm i) t env S1 fun env' => D.nx env' S1) (D.xx env)) := fun fm ho W tk =>
  ps_imp (h x p i pos (by rw [C.hN]; exact hn) (by rw [C.sc]; exact hl) hs W tk) fun D σ H q => by
  obtain ⟨z, env, S, d, he, hr, hw, k⟩ := q.of
  exact ⟨z, env, S, _, _, he, hr, hw, fun x S1 v H1 x1 r1 t1 q1 => k.nx _ _ _ _ x1 r1 ((he.mn x1).set i t1) q1, k.ex he⟩
theorem js_subL {o i e : Expr} {p pos : Pos} {wo wi we : WE1} (ho : JE X o wo) (hi : JE X i wi) (h : JE X e we) (hs : swapsWithSole [.Subscript o i p] e pos.line X.env = pure false) (hw : swappedStores [.Subscript o i p] e X.env = pure none)
    (ha : ∀ v, assign (.Subscript o i p) X.env v = (do let ov ← holding [v] (eval o X.env); let iv ← holding [v, ov] (eval i X.env); standAt p; holding [v, ov, iv] (setItem ov iv v); release [v, ov, iv] [])) :
    JS X (.Assign [.Subscript o i p] e pos) (fun env S D => we env S (fun v S1 => wo env S1 (fun x S2 => wi env S2 (fun y S3 => oSetL x y v S3 fun S4 => D.nx env S4) (D.xx env)) (D.xx env)) (D.xx env)) := fun fm ho' W tk =>
  ps_imp (ps_asg (h W tk) (pg_sub (ho W tk) (hi W tk) set_list ha) hs hw rfl) fun D σ H q => by
  obtain ⟨z, env, S, d, he, hr, hw, k⟩ := q.of
  refine ⟨z, env, S, _, _, he, hr, hw, fun v S1 vv H1 x1 r1 t1 q1 => ?_, k.ex he⟩
  refine ⟨z, env, S1, _, _, he.mn x1, r1, q1, fun x S2 xv H2 x2 r2 t2 q2 => ?_, lX.on (k.ex he) x1⟩
  refine ⟨z, env, S2, _, _, he.mn (x1.trans x2), r2, q2, fun y S3 yv H3 x3 r3 t3 q3 => ?_, lX.on (k.ex he) (x1.trans x2)⟩
  unfold oSetL at q3
  split at q3
  · split at q3
    · rename_i ts e3
      obtain ⟨j, ej, q3⟩ := q3
      cases t2; cases t3
      obtain ⟨ws, q, rr⟩ := r3.lst e3
      have x4 := Ext.write (H := H3) (o := .lst (ws.set j vv)) (c' := .lst (ts.set j v)) e3
      exact ⟨_, ws, _, j, rfl, rfl, q, by rw [rr.len]; exact ej, k.nx _ _ _ _ (((x1.trans x2).trans x3).trans x4) (r3.write e3 ⟨_, upd_same, (rr.set j ((t1.mn x2).mn x3)).mn x4⟩) (he.mn (((x1.trans x2).trans x3).trans x4)) q3⟩
    · exact q3.elim
  · exact q3.elim
theorem js_subD (g : Roomy X) {o e : Expr} {s : Str} {n : Nat} {p2 p pos : Pos} {wo we : WE1} (ho : JE X o wo) (h : JE X e we) (hs : swapsWith e (some (.Subscript o (.Constant (.str s) n p2) p)) pos.line X.env = pure false) :
    JS X (.Assign [.Subscript o (.Constant (.str s) n p2) p] e pos) (fun env S D => we env S (fun v S1 => wo env S1 (fun x S2 => oSetD x (.inr s) v S2 fun S4 => D.nx env S4) (D.xx env)) (D.xx env)) := fun fm ho' W tk =>
  ps_imp (ps_dput (by have := g.un; omega) (ho W tk) pe_str (h W tk) hs) fun D σ H q => by
  obtain ⟨z, env, S, d, he, hr, hw, k⟩ := q.of
  refine ⟨z, env, S, _, _, he, hr, hw, fun v S1 vv H1 x1 r1 t1 q1 => ?_, k.ex he⟩
  refine ⟨z, env, S1, _, _, he.mn x1, r1, q1, fun x S2 xv H2 x2 r2 t2 q2 => ?_, lX.on (k.ex he) x1⟩
  unfold oSetD at q2
  split at q2
  · split at q2
    · rename_i a kvs e3
      cases t2
      obtain ⟨kvs', q, h1, h2⟩ := r2.dct e3
      have hl : kvs'.length = kvs.length := by have := congrArg List.length h1; simpa using this.symm
      have x4 := Ext.write (H := H2) (o := .dK (putK kvs' (Sum.inr s) vv)) (c' := .dct (dput kvs (Sum.inr s) v)) e3
      obtain ⟨d1, d2⟩ := dp_rel (k := Sum.inr s) (t1.mn x2) h1 h2
      exact ⟨_, _, rfl, DPut.k (k := Sum.inr s) q (by rw [hl]; exact q2.1), k.nx _ _ _ _ ((x1.trans x2).trans x4) (r2.write e3 ⟨_, upd_same, d1, d2.mn x4⟩) (he.mn ((x1.trans x2).trans x4)) q2.2⟩
    · exact q2.elim
  · exact q2.elim
/-! ### loops -/
theorem js_for (C : CtxOk X G) {tg it : Expr} {b : List Stmt} {pos : Pos} {g : Tg} {wi : WI1} {wb : Env → Sto → En → Prop} (hc : G.calm = true) (hi : JI X tg it wi) (hg : chkG G g tg = true) (hb : JB X b wb) (ns : notSet it = true) :
    JS X (.For tg it b [] pos) (fun env S D => wi env S (fun ts gd S1 => wFor g wb gd ts env S1 D) (D.xx env)) := fun fm ho W tk =>
  ps_imp (ps_for ho (by rw [C.calm]; exact hc) (hi W tk) (pg_ok C g tg hg) (hb fm ho W tk) (fold_e ns)) fun D σ H q => by
  obtain ⟨z, env, S, d, he, hr, hw, k⟩ := q.of
  refine ⟨z, env, S, _, _, he, hr, hw, fun ts gd S1 H1 J x1 r1 wk q1 => ?_, k.ex he⟩
  obtain ⟨Gd, Y, wJ, wK⟩ := wk
  have gdn : ∀ {ts' e' S'}, wFor g wb gd ts' e' S' d → gd S' := fun {ts' e' S'} h => by
    cases ts' with
    | nil => exact h.1
    | cons _ _ => exact h.1
  refine for_it wJ (Pv := fun i σ2 H2 => ∃ e2 S2, EnvR X.K z H2 S2 e2 σ2 ∧ HR X.K z H2 S2 ∧ Ext H1 S1 H2 S2 ∧ wFor g wb gd (ts.drop i) e2 S2 d) ?_ ?_ ?_ ?_
  · exact ⟨env, S1, he.mn x1, r1, Ext.refl _ _, by simpa using q1⟩
  · rintro i σ2 H2 hi' ⟨e2, S2, h1, h2, h3, h4⟩
    exact (wK z H2 S2 (Rl.of h3) h2 (gdn h4)).1
  · rintro i x σ2 H2 H3 hi' ⟨e2, S2, h1, h2, h3, h4⟩ hy
    obtain ⟨t, e1, x3, r3, rt⟩ := (wK z H2 S2 (Rl.of h3) h2 (gdn h4)).2 i x H3 hi' hy
    have ed : ts.drop i = t :: ts.drop (i + 1) := by
      rw [List.drop_eq_getElem_cons hi']
      have := List.getElem?_eq_getElem hi'
      rw [e1] at this
      rw [← Option.some.inj this]
    rw [ed] at h4
    refine ⟨z, e2, S2, t, _, h1.mn x3, r3, rt, h4.2, fun env' σ' he' _ h5 => ?_⟩
    have x13 := h3.trans x3
    have kk := (k.on x1).on x13
    have nx' : ∀ e S' σ' H', Ext H3 S2 H' S' → HR X.K z H' S' → EnvR X.K z H' S' e σ' → wFor g wb gd (ts.drop (i + 1)) e S' d → ∃ e2 S2, EnvR X.K z H' S2 e2 σ' ∧ HR X.K z H' S2 ∧ Ext H1 S1 H' S2 ∧ wFor g wb gd (ts.drop (i + 1)) e2 S2 d :=
      fun e S' σ' H' x4 r4 he4 q4 => ⟨e, S', he4, r4, x13.trans x4, q4⟩
    exact lS.mk he' r3 h5 ⟨nx', kk.rt, kk.nx, nx', kk.xx⟩
  · rintro σ2 H2 ⟨e2, S2, h1, h2, h3, h4⟩
    rw [List.drop_length] at h4
    exact k.nx _ _ _ _ (x1.trans h3) h2 h1 h4.2
theorem js_while {c : Expr} {b : List Stmt} {pos : Pos} {wc : WT1} {wb : Env → Sto → En → Prop} (hc : JT X c wc) (hb : JB X b wb) :
    JS X (.While c b [] pos) (fun env S D => ∃ W : Nat → Env → Sto → Prop, (∃ m, W m env S) ∧ ∀ m env S, W m env S → wc env S (fun k S1 => if k = true then
      wb env S1 { D with nx := fun e s => ∃ m', m' < m ∧ W m' e s, ct := fun e s => ∃ m', m' < m ∧ W m' e s, bk := D.nx } else D.nx env S1) (D.xx env)) := fun fm ho W tk =>
  ps_imp (ps_while ho (hc W tk) (hb fm ho W tk)) fun D σ H q => by
  obtain ⟨z, env, S, d, he, hr, ⟨U, ⟨m0, u0⟩, turn⟩, k⟩ := q.of
  refine ⟨fun m σ2 H2 => ∃ e2 S2, EnvR X.K z H2 S2 e2 σ2 ∧ HR X.K z H2 S2 ∧ Ext H S H2 S2 ∧ U m e2 S2, ⟨m0, env, S, he, hr, Ext.refl _ _, u0⟩, ?_⟩
  rintro m σ2 H2 ⟨e2, S2, h1, h2, h3, h4⟩
  refine ⟨z, e2, S2, _, _, h1, h2, turn m e2 S2 h4, fun kk S3 v H3 x3 r3 t3 q3 => ?_, (k.on h3).ex h1⟩
  subst t3
  split at q3
  · rename_i hx
    rw [if_pos hx]
    refine ⟨fun σ' H' => ∃ e' S', EnvR X.K z H' S' e' σ' ∧ HR X.K z H' S' ∧ Ext H S H' S' ∧ ∃ m', m' < m ∧ U m' e' S', fun σ' H' ⟨e', S', a1, a2, a3, m', a4, a5⟩ => ⟨m', a4, e', S', a1, a2, a3, a5⟩, ?_⟩
    have x23 := h3.trans x3
    have kk := k.on x23
    have nx' : ∀ e S' σ' H', Ext H3 S3 H' S' → HR X.K z H' S' → EnvR X.K z H' S' e σ' → (∃ m', m' < m ∧ U m' e S') → ∃ e' S', EnvR X.K z H' S' e' σ' ∧ HR X.K z H' S' ∧ Ext H S H' S' ∧ ∃ m', m' < m ∧ U m' e' S' :=
      fun e S' σ' H' x4 r4 he4 q4 => ⟨e, S', he4, r4, x23.trans x4, q4⟩
    exact lS.mk (h1.mn x3) r3 q3 ⟨nx', kk.rt, kk.nx, nx', kk.xx⟩
  · rename_i hx
    rw [if_neg hx]
    exact (k.on (h3.trans x3)).nx _ _ _ _ (Ext.refl _ _) r3 (h1.mn x3) q3

/-! ### two and three names at once -/
theorem EnvR.two {K : PySem.W.Frag} {z : Addr → Prop} {H : Hp} {S : Sto} {env : Env} {σ : L2.St} : ∀ {is : List Nat} {ts : List T} {vs : List V}, EnvR K z H S env σ → RTs K z H S ts vs → EnvR K z H S (setAll env is ts) (is.zip vs |>.foldl (fun s p => s.set p.1 (some p.2)) σ) := by
  intro is
  induction is generalizing env σ with
  | nil => intro ts vs h r; simpa [setAll] using h
  | cons i is ih =>
    intro ts vs h r
    cases r with
    | nil => simpa [setAll] using h
    | cons rt rr => simpa [setAll] using ih (h.set i rt) rr
theorem js_par2 (C : CtxOk X G) {i j : Nat} {x y : Str} {a b : Expr} {px py pt pos pt2 : Pos} {kt k2 : Nat} {wa : WA1} (hc : G.calm = true) (hi : G.N[i]? = some x) (hj : G.N[j]? = some y) (hij : i ≠ j) (hx : G.sc.names.lookup x = some .local) (hy : G.sc.names.lookup y = some .local)
    (ha : JA X [a, b] wa) (hw : swappedStores [.Tuple [.Name x px, .Name y py] kt pt] (.Tuple [a, b] k2 pt2) X.env = pure (some [x, y])) (hs : swapsWithSole [.Tuple [.Name x px, .Name y py] kt pt] (.Tuple [a, b] k2 pt2) pos.line X.env = pure false) :
    JS X (.Assign [.Tuple [.Name x px, .Name y py] kt pt] (.Tuple [a, b] k2 pt2) pos) (fun env S D => wa env S (fun ts S1 => ts.length = [i, j].length ∧ D.nx (setAll env [i, j] ts) S1) (D.xx env)) := fun fm ho W tk =>
  ps_imp (ps_par (by rw [C.calm]; exact hc) (by rw [C.hN]; exact C.nd) (by rw [C.hN]; exact hi) (by rw [C.hN]; exact hj) hij (by rw [C.sc]; exact hx) (by rw [C.sc]; exact hy) (ha W tk) hw hs) fun D σ H q => by
  obtain ⟨z, env, S, d, he, hr, hw, k⟩ := q.of
  refine ⟨z, env, S, _, _, he, hr, hw, fun ts S1 vs H1 x1 r1 t1 q1 => ?_, k.ex he⟩
  obtain ⟨l, q1⟩ := q1
  have e1 := EnvR.two (is := [i, j]) (he.mn x1) t1
  match vs, (show vs.length = 2 by rw [t1.len]; exact l) with
  | [v, w], _ => exact ⟨v, w, rfl, k.nx _ _ _ _ x1 r1 e1 q1⟩
theorem js_par3 (C : CtxOk X G) {i j l : Nat} {x y u : Str} {a b c : Expr} {px py pu pt pos pt2 : Pos} {kt k2 : Nat} {wa : WA1} (hc : G.calm = true) (hi : G.N[i]? = some x) (hj : G.N[j]? = some y) (hl : G.N[l]? = some u) (hij : i ≠ j) (hil : i ≠ l) (hjl : j ≠ l) (hx : G.sc.names.lookup x = some .local) (hy : G.sc.names.lookup y = some .local) (hu : G.sc.names.lookup u = some .local)
    (ha : JA X [a, b, c] wa) (hw : swappedStores [.Tuple [.Name x px, .Name y py, .Name u pu] kt pt] (.Tuple [a, b, c] k2 pt2) X.env = pure (some [x, y, u])) (hs : swapsWithSole [.Tuple [.Name x px, .Name y py, .Name u pu] kt pt] (.Tuple [a, b, c] k2 pt2) pos.line X.env = pure false) :
    JS X (.Assign [.Tuple [.Name x px, .Name y py, .Name u pu] kt pt] (.Tuple [a, b, c] k2 pt2) pos) (fun env S D => wa env S (fun ts S1 => ts.length = [i, j, l].length ∧ D.nx (setAll env [i, j, l] ts) S1) (D.xx env)) := fun fm ho W tk =>
  ps_imp (ps_par3 (by rw [C.calm]; exact hc) (by rw [C.hN]; exact C.nd) (by rw [C.hN]; exact hi) (by rw [C.hN]; exact hj) (by rw [C.hN]; exact hl) hij hil hjl (by rw [C.sc]; exact hx) (by rw [C.sc]; exact hy) (by rw [C.sc]; exact hu) (ha W tk) hw hs) fun D σ H q => by
  obtain ⟨z, env, S, d, he, hr, hw, k⟩ := q.of
  refine ⟨z, env, S, _, _, he, hr, hw, fun ts S1 vs H1 x1 r1 t1 q1 => ?_, k.ex he⟩
  obtain ⟨l', q1⟩ := q1
  have e1 := EnvR.two (is := [i, j, l]) (he.mn x1) t1
  match vs, (show vs.length = 3 by rw [t1.len]; exact l') with
  | [v, w, u], _ => exact ⟨v, w, u, rfl, k.nx _ _ _ _ x1 r1 e1 q1⟩
theorem js_aug (C : CtxOk X G) {x : Str} {e : Expr} {i : Nat} {o : Bo} {p pos : Pos} {we : WE1} (hoo : o = .add ∨ o = .sub) (hi : G.N[i]? = some x) (hl : G.sc.names.lookup x = some .local) (h : JE X e we) :
    JS X (.AugAssign (.Name x p) o.op e pos) (fun env S D => match env[i]? with
    | some (some x) => we env S (fun y S1 => oAug o x y S1 fun r S2 => D.nx (env.set i (some r)) S2) (D.xx env)
    | _ => False) := by
  intro fm ho W tk
  have ip : ∀ {f : Int → Int → Int}, PIp X o.op (ipI f) → (∀ x y S R, oAug o x y S R → ∃ i j, x = .int i ∧ y = .int j ∧ R (.int (f i j)) S) → PS X (.AugAssign (.Name x p) o.op e pos) (lS X.K W (fun env S D => match env[i]? with
    | some (some x) => we env S (fun y S1 => oAug o x y S1 fun r S2 => D.nx (env.set i (some r)) S2) (D.xx env)
    | _ => False)) := by
    intro f pp hf
    refine ps_imp (ps_aug (i := i) (by rw [C.hN]; exact C.nd) (by rw [C.hN]; exact hi) (.inl (by rw [C.sc]; exact hl)) (h W tk) pp (.inr (by rw [C.sc]; exact hl))) fun D σ H q => ?_
    obtain ⟨z, env, S, d, he, hr, hw, k⟩ := q.of
    split at hw
    · rename_i t et
      obtain ⟨v, e2, rt⟩ := he.2 i t et
      refine ⟨v, e2, z, env, S, _, _, he, hr, hw, fun y S1 u H1 x1 r1 t1 q1 => ?_, k.ex he⟩
      obtain ⟨a, b, rfl, rfl, q2⟩ := hf _ _ _ _ q1
      cases rt; cases t1
      exact ⟨a, b, rfl, rfl, k.nx _ _ _ _ x1 r1 ((he.mn x1).set i (.int _)) q2⟩
    · exact hw.elim
  rcases hoo with rfl | rfl
  · refine ip ip_add fun x y S R q => ?_
    cases x <;> cases y <;> first | exact ⟨_, _, rfl, rfl, q⟩ | exact q.elim
  · refine ip ip_sub fun x y S R q => ?_
    cases x <;> cases y <;> first | exact ⟨_, _, rfl, rfl, q⟩ | exact q.elim

/-! ### raising and catching -/
theorem mk_own0 {x : Str} {D : Addr} {p pos : Pos} (o : ExcOk X x D) (hg : Gl X x) (hdb : (x == ("__debug__" : Str)) = false) : PMk X (.Call (.Name x p) [] [] pos) (fun _ H Q => Q (.ref D) none H) := by
  intro pins s σ H Q I q
  obtain ⟨bmB, B, n1, n2, F, ex⟩ := o.ex
  refine wpAny_Call_Name_kw (ld_glob I hg o.gC ?_ hdb)
  refine PySem.W.callWith_K0 I.kIn o.kC ?_
  show wpAny _ _ (call (.ref D) []) _ _ _
  obtain ⟨bm, Ns, nm, qn, bs, hd, sn, sub, ab, col, dd, k0, k1, k2, k3, k5, mN, hC, hN, hni, tt⟩ := exc_obj I.kIn ex
  exact wpAny_call_exc_subT F tt hC hN hni (fun h' e hm => mk_of I hm o.ra q (I.hok.gone hm.new)) (by show 0 ≤ sizeLine; exact Nat.zero_le _)
theorem js_raise (C : CtxOk X G) {x : Str} {D : Addr} {p pos pos2 : Pos} (hc : G.calm = true) (o : ExcOk X x D) (g : glB G.sc x = true) : JS X (.Raise (some (.Call (.Name x p) [] [] pos)) none pos2) (fun env S d => d.xx env ⟨.ref D, none⟩ S) := by
  intro fm ho W tk
  obtain ⟨g1, g2, _⟩ := gl_of C g
  refine ps_imp (ps_raise (by rw [C.calm]; exact hc) tk (mk_own0 o g1 g2)) fun d σ H q => ?_
  obtain ⟨z, env, S, d, he, hr, hw, k⟩ := q.of
  exact k.xx _ _ _ _ _ _ _ (Ext.refl _ _) hr he ⟨rfl, trivial⟩ hw
theorem CtxOk.tr (C : CtxOk X G) {pn : List (Addr × Obj)} {xe : Value → Shared → Prop} : CtxOk (X.tr pn xe) G := ⟨C.hN, C.nd, C.sc, C.calm, ⟨C.rm.un, C.rm.gd, C.rm.sm⟩, C.fn, C.cs, C.bt, C.bf, C.cel, fun k x D h => ⟨(C.ex k x D h).ex, (C.ex k x D h).gC, (C.ex k x D h).kC, (C.ex k x D h).ra⟩, C.em⟩
theorem CtxOk.suite (C : CtxOk X G) {a : Addr} {pn : List (Addr × Obj)} : CtxOk (X.suite a pn) (hotG G) where
  hN := C.hN
  nd := C.nd
  sc := C.sc
  calm := rfl
  rm := ⟨C.rm.un, C.rm.gd, C.rm.sm⟩
  fn := fun k x sp h => by simp [hotG] at h
  cs := C.cs
  bt := C.bt
  bf := C.bf
  cel := C.cel
  ex := fun k x D h => by simp [hotG] at h
  em := C.em
theorem js_try (C : CtxOk X G) {x : Str} {D : Addr} {np pos pos' : Pos} {body suite : List Stmt} {b0 : Stmt} {wb ws : Env → Sto → En → Prop} (o : ExcOk X x D) (g : glB G.sc x = true) (hb : ∀ {X' : Cx}, CtxOk X' G → X'.K = X.K → JB X' body wb) (hs : ∀ {X' : Cx}, CtxOk X' (hotG G) → X'.K = X.K → JB X' (b0 :: suite) ws) :
    JS X (.Try body [.ExceptHandler (some (.Name x np)) none (b0 :: suite) pos'] [] [] pos) (fun env S d => wb env S { d with xx := fun e' y S' => ∃ m, G.exm y.cls (.ref D) = some m ∧ if m = true then ws e' S' { d with xx := fun _ _ _ => False } else d.xx e' y S' }) := by
  intro fm ho W tk
  obtain ⟨g1, g2, _⟩ := gl_of C g
  refine ps_imp (ps_try_only (tb := fun W' => lS X.K W' wb) (ts := fun _ _ _ => lS X.K (fun _ _ _ _ => False) ws) (Wout := W) (c := .ref D) fm.st fm.fr ⟨g1, g2, .inl o.gC⟩ tk (fun W' pn xe tk' po' => ?_) (fun a oe cls dd pn hz hf => ?_)) fun dd σ H q => ?_
  · exact hb (X' := X.tr pn xe) C.tr rfl ⟨fm.st, fm.fr⟩ po' W' tk'
  · exact hs (X' := X.suite a ((a, oe) :: pn)) C.suite rfl ⟨fm.st, fm.fr⟩ PassesOwn.never _ takes0
  · obtain ⟨z, env, S, d, he, hr, hw, k⟩ := q.of
    refine lS.mk he hr hw ⟨k.nx, k.rt, k.bk, k.ct, fun e' y S' σ' c a H' x1 r1 e1 xr q1 => ?_⟩
    obtain ⟨m, em, q1⟩ := q1
    refine ⟨m, by rw [xr.1]; exact C.em _ _ _ em, fun hm aa na => ?_, fun hm => ?_⟩
    · rw [if_pos hm] at q1
      have kk := k.on x1
      exact lS.mk e1 r1 q1 ⟨kk.nx, kk.rt, kk.bk, kk.ct, fun _ _ _ _ _ _ _ _ _ _ _ f => f⟩
    · subst hm
      rw [if_neg Bool.false_ne_true] at q1
      exact k.xx _ _ _ _ _ _ _ x1 r1 e1 xr q1
end
end TP

set_option maxHeartbeats 4000000
namespace TP
open PySem PySem.Spec PyProof.Rows L2

/-! ### the text's statements against the trees -/
def envK (sc : Scope) : PySem.Env := { scope := sc, locals := 0, globals := 0, cells := [] }
def puB (t : Sem Bool) : Option Bool := match t with
  | .pure b => some b
  | _ => none
def puN (t : Sem (Option (List Str))) : Option (Option (List Str)) := match t with
  | .pure b => some b
  | _ => none
theorem puB_eq {t : Sem Bool} {b : Bool} (h : puB t = some b) : t = pure b := by
  cases t <;> first | (cases h; rfl) | cases h
theorem puN_eq {t : Sem (Option (List Str))} {b : Option (List Str)} (h : puN t = some b) : t = pure b := by
  cases t <;> first | (cases h; rfl) | cases h
theorem sw_env (v : Expr) (t : Option Expr) (l : Nat) (env : PySem.Env) : swapsWith v t l env = swapsWith v t l (envK env.scope) := rfl
theorem sws_env (ts : List Expr) (v : Expr) (l : Nat) (env : PySem.Env) : swapsWithSole ts v l env = swapsWithSole ts v l (envK env.scope) := by
  cases ts with
  | nil => rfl
  | cons a r => cases r <;> rfl
theorem sst_env (ts : List Expr) (v : Expr) (env : PySem.Env) : swappedStores ts v env = swappedStores ts v (envK env.scope) := rfl
structure Ck2 where
  s : Stmt → Bool
  b : List Stmt → Bool
def nS : Stmt → Bool := fun _ => false
def nB : List Stmt → Bool := fun _ => false
def ckS : Stm → Gx → Ck2
  | .nil, _ => ⟨nS, fun | [] => true | _ => false⟩
  | .cons s r, G => ⟨nS, fun | x :: xs => (ckS s G).s x && (ckS r G).b xs | _ => false⟩
  | .expr e, G => ⟨fun | .Expr v pos => (chk e G).e v && decide (puB (swapsWith v none pos.line (envK G.sc)) = some false) | _ => false, nB⟩
  | .ret e, G => ⟨fun | .Return (some v) _ => (chk e G).e v | _ => false, nB⟩
  | .retN, _ => ⟨fun | .Return none _ => true | _ => false, nB⟩
  | .ifs c a b, G => ⟨fun | .If t x y _ => (chk c G).e t && (ckS a G).b x && (ckS b G).b y | _ => false, nB⟩
  | .asg g e, G => ⟨fun
    | .Assign [tg] v pos => (chk e G).e v && (match tg, g with
      | .Name y p, .nm i => (match puB (swapsWith v (some (.Name y p)) pos.line (envK G.sc)) with
        | some true => isLc v && decide (G.N[i]? = some y) && decide (G.sc.names.lookup y = some .local)
        | some false => chkG G (.nm i) (.Name y p)
        | none => false)
      | tg, g => chkG G g tg && notStar tg && decide (puB (swapsWithSole [tg] v pos.line (envK G.sc)) = some false) && decide (puN (swappedStores [tg] v (envK G.sc)) = some none))
    | _ => false, nB⟩
  | .par is as, G => ⟨fun
    | .Assign [.Tuple ts kt pt] (.Tuple vs k2 pt2) pos => G.calm && (chk as G).a vs && decide (puB (swapsWithSole [.Tuple ts kt pt] (.Tuple vs k2 pt2) pos.line (envK G.sc)) = some false) && (match is, ts, vs with
      | [i, j], [.Name x px, .Name y py], [a, b] => decide (G.N[i]? = some x) && decide (G.N[j]? = some y) && decide (i ≠ j) && decide (G.sc.names.lookup x = some .local) && decide (G.sc.names.lookup y = some .local) &&
          decide (puN (swappedStores [.Tuple [.Name x px, .Name y py] kt pt] (.Tuple [a, b] k2 pt2) (envK G.sc)) = some (some [x, y]))
      | [i, j, l], [.Name x px, .Name y py, .Name u pu], [a, b, c] => decide (G.N[i]? = some x) && decide (G.N[j]? = some y) && decide (G.N[l]? = some u) && decide (i ≠ j) && decide (i ≠ l) && decide (j ≠ l) && decide (G.sc.names.lookup x = some .local) && decide (G.sc.names.lookup y = some .local) && decide (G.sc.names.lookup u = some .local) &&
          decide (puN (swappedStores [.Tuple [.Name x px, .Name y py, .Name u pu] kt pt] (.Tuple [a, b, c] k2 pt2) (envK G.sc)) = some (some [x, y, u]))
      | _, _, _ => false)
    | _ => false, nB⟩
  | .subL o i e, G => ⟨fun | .Assign [.Subscript x y p] v pos => !isSlice y && (chk o G).e x && (chk i G).e y && (chk e G).e v && decide (puB (swapsWithSole [.Subscript x y p] v pos.line (envK G.sc)) = some false) && decide (puN (swappedStores [.Subscript x y p] v (envK G.sc)) = some none) | _ => false, nB⟩
  | .subD o k e, G => ⟨fun | .Assign [.Subscript x (.Constant (.str s) n p2) p] v pos => decide (k = s) && (chk o G).e x && (chk e G).e v && decide (puB (swapsWith v (some (.Subscript x (.Constant (.str s) n p2) p)) pos.line (envK G.sc)) = some false) | _ => false, nB⟩
  | .aug i o e, G => ⟨fun | .AugAssign (.Name x _) op v _ => decide (op = o.op) && (decide (o = .add) || decide (o = .sub)) && decide (G.N[i]? = some x) && decide (G.sc.names.lookup x = some .local) && (chk e G).e v | _ => false, nB⟩
  | .for_ g it b, G => ⟨fun | .For tg x body [] _ => G.calm && (!needTup it || isTupE tg) && (chk it G).i x && chkG G g tg && notSet x && (ckS b G).b body | _ => false, nB⟩
  | .while_ c b, G => ⟨fun | .While t body [] _ => (chk c G).e t && (ckS b G).b body | _ => false, nB⟩
  | .raise k, G => ⟨fun | .Raise (some (.Call (.Name x _) [] [] _)) none _ => G.calm && (match G.exs[k]? with | some (y, _) => decide (x = y) | none => false) && glB G.sc x | _ => false, nB⟩
  | .try_ b k s, G => ⟨fun | .Try body [.ExceptHandler (some (.Name x _)) none (b0 :: rest) _] [] [] _ => (match G.exs[k]? with | some (y, _) => decide (x = y) | none => false) && glB G.sc x && (ckS b G).b body && (ckS s (hotG G)).b (b0 :: rest) | _ => false, nB⟩
  | .pass, _ => ⟨fun | .Pass _ => true | .Expr (.Constant (.str _) _ _) _ => true | _ => false, nB⟩
  | .brk, _ => ⟨fun | .Break _ => true | _ => false, nB⟩
  | .cnt, _ => ⟨fun | .Continue _ => true | _ => false, nB⟩
theorem asg_sub {o i : Expr} {p : Pos} {env : PySem.Env} (h : isSlice i = false) : ∀ v, assign (.Subscript o i p) env v = (do let ov ← holding [v] (eval o env); let iv ← holding [v, ov] (eval i env); standAt p; holding [v, ov, iv] (setItem ov iv v); release [v, ov, iv] []) := by
  intro v
  cases i <;> first | rfl | cases h
structure Ok2 (X : Cx) (G : Gx) (u : Stm) : Prop where
  s : ∀ x, (ckS u G).s x = true → JS X x (wS u G)
  b : ∀ x, (ckS u G).b x = true → JB X x (wS u G)
theorem ok_s : ∀ (u : Stm) (X : Cx) (G : Gx), CtxOk X G → Ok2 X G u := by
  intro u
  induction u with
  | nil =>
    intro X G C
    refine ⟨fun x c => (nomatch c), fun x c => ?_⟩
    simp only [ckS] at c
    split at c
    · exact jb_nil
    · cases c
  | cons s r ihs ihr =>
    intro X G C
    refine ⟨fun x c => (nomatch c), fun x c => ?_⟩
    simp only [ckS] at c
    split at c
    · simp only [Bool.and_eq_true] at c
      exact jb_cons (ws := wS s G) (wr := wS r G) ((ihs X G C).s _ c.1) ((ihr X G C).b _ c.2)
    · cases c
  | expr e =>
    intro X G C
    refine ⟨fun x c => ?_, fun x c => (nomatch c)⟩
    simp only [ckS] at c
    split at c
    · simp only [Bool.and_eq_true, decide_eq_true_eq] at c
      exact js_expr ((ok_e e X G C).e _ c.1) (by rw [sw_env, C.sc]; exact puB_eq c.2)
    · cases c
  | ret e =>
    intro X G C
    refine ⟨fun x c => ?_, fun x c => (nomatch c)⟩
    simp only [ckS] at c
    split at c
    · exact js_ret ((ok_e e X G C).e _ c)
    · cases c
  | retN =>
    intro X G C
    refine ⟨fun x c => ?_, fun x c => (nomatch c)⟩
    simp only [ckS] at c
    split at c
    · exact js_retN
    · cases c
  | ifs e a b iha ihb =>
    intro X G C
    refine ⟨fun x c => ?_, fun x c => (nomatch c)⟩
    simp only [ckS] at c
    split at c
    · simp only [Bool.and_eq_true] at c
      exact js_if ((ok_e e X G C).t _ c.1.1) ((iha X G C).b _ c.1.2) ((ihb X G C).b _ c.2)
    · cases c
  | asg g e =>
    intro X G C
    refine ⟨fun x c => ?_, fun x c => (nomatch c)⟩
    simp only [ckS] at c
    split at c
    · simp only [Bool.and_eq_true] at c
      obtain ⟨c1, c2⟩ := c
      split at c2
      · split at c2
        · rename_i hs
          simp only [Bool.and_eq_true, decide_eq_true_eq] at c2
          exact js_setL C ((ok_e e X G C).s _ c1 c2.1.1) c2.1.2 c2.2 (by rw [sw_env, C.sc]; exact puB_eq hs)
        · rename_i hs
          exact js_set C ((ok_e e X G C).e _ c1) c2 (by rw [sw_env, C.sc]; exact puB_eq hs)
        · cases c2
      · simp only [Bool.and_eq_true, decide_eq_true_eq] at c2
        exact js_asg C ((ok_e e X G C).e _ c1) c2.1.1.1 (by rw [sws_env, C.sc]; exact puB_eq c2.1.2) (by rw [sst_env, C.sc]; exact puN_eq c2.2) c2.1.1.2
    · cases c
  | par is as =>
    intro X G C
    refine ⟨fun x c => ?_, fun x c => (nomatch c)⟩
    simp only [ckS] at c
    split at c
    · simp only [Bool.and_eq_true, decide_eq_true_eq] at c
      obtain ⟨⟨⟨c1, c2⟩, c3⟩, c4⟩ := c
      split at c4
      · simp only [Bool.and_eq_true, decide_eq_true_eq] at c4
        obtain ⟨⟨⟨⟨⟨d1, d2⟩, d3⟩, d4⟩, d5⟩, d6⟩ := c4
        exact js_par2 C c1 d1 d2 d3 d4 d5 ((ok_e as X G C).a _ c2) (by rw [sst_env, C.sc]; exact puN_eq d6) (by rw [sws_env, C.sc]; exact puB_eq c3)
      · simp only [Bool.and_eq_true, decide_eq_true_eq] at c4
        obtain ⟨⟨⟨⟨⟨⟨⟨⟨⟨d1, d2⟩, d3⟩, d4⟩, d5⟩, d6⟩, d7⟩, d8⟩, d9⟩, d10⟩ := c4
        exact js_par3 C c1 d1 d2 d3 d4 d5 d6 d7 d8 d9 ((ok_e as X G C).a _ c2) (by rw [sst_env, C.sc]; exact puN_eq d10) (by rw [sws_env, C.sc]; exact puB_eq c3)
      · cases c4
    · cases c
  | subL o i e =>
    intro X G C
    refine ⟨fun x c => ?_, fun x c => (nomatch c)⟩
    simp only [ckS] at c
    split at c
    · simp only [Bool.and_eq_true, decide_eq_true_eq, Bool.not_eq_true'] at c
      obtain ⟨⟨⟨⟨⟨c0, c1⟩, c2⟩, c3⟩, c4⟩, c5⟩ := c
      exact js_subL ((ok_e o X G C).e _ c1) ((ok_e i X G C).e _ c2) ((ok_e e X G C).e _ c3) (by rw [sws_env, C.sc]; exact puB_eq c4) (by rw [sst_env, C.sc]; exact puN_eq c5) (asg_sub c0)
    · cases c
  | subD o k e =>
    intro X G C
    refine ⟨fun x c => ?_, fun x c => (nomatch c)⟩
    simp only [ckS] at c
    split at c
    · simp only [Bool.and_eq_true, decide_eq_true_eq] at c
      obtain ⟨⟨⟨rfl, c1⟩, c2⟩, c3⟩ := c
      exact js_subD C.rm ((ok_e o X G C).e _ c1) ((ok_e e X G C).e _ c2) (by rw [sw_env, C.sc]; exact puB_eq c3)
    · cases c
  | aug i o e =>
    intro X G C
    refine ⟨fun x c => ?_, fun x c => (nomatch c)⟩
    simp only [ckS] at c
    split at c
    · simp only [Bool.and_eq_true, Bool.or_eq_true, decide_eq_true_eq] at c
      obtain ⟨⟨⟨⟨rfl, c1⟩, c2⟩, c3⟩, c4⟩ := c
      exact js_aug C c1 c2 c3 ((ok_e e X G C).e _ c4)
    · cases c
  | for_ g it b ihb =>
    intro X G C
    refine ⟨fun x c => ?_, fun x c => (nomatch c)⟩
    simp only [ckS] at c
    split at c
    · simp only [Bool.and_eq_true] at c
      obtain ⟨⟨⟨⟨⟨c1, c2⟩, c3⟩, c4⟩, c5⟩, c6⟩ := c
      exact js_for C c1 ((ok_e it X G C).i _ _ (fun n => by rw [n] at c2; simpa using c2) c3) c4 ((ihb X G C).b _ c6) c5
    · cases c
  | while_ e b ihb =>
    intro X G C
    refine ⟨fun x c => ?_, fun x c => (nomatch c)⟩
    simp only [ckS] at c
    split at c
    · simp only [Bool.and_eq_true] at c
      exact js_while ((ok_e e X G C).t _ c.1) ((ihb X G C).b _ c.2)
    · cases c
  | raise k =>
    intro X G C
    refine ⟨fun x c => ?_, fun x c => (nomatch c)⟩
    simp only [ckS] at c
    split at c
    · simp only [Bool.and_eq_true] at c
      obtain ⟨⟨c0, c1⟩, c2⟩ := c
      split at c1
      · rename_i y D e
        simp only [decide_eq_true_eq] at c1; subst c1
        intro fm ho W tk
        refine ps_imp (js_raise C c0 (C.ex _ _ _ e) c2 fm ho W tk) fun d σ H q => ?_
        obtain ⟨z, env, S, d, he, hr, hw, k⟩ := q.of
        simp only [wS, e] at hw
        exact lS.mk he hr hw k
      · cases c1
    · cases c
  | try_ b k s ihb ihs =>
    intro X G C
    refine ⟨fun x c => ?_, fun x c => (nomatch c)⟩
    simp only [ckS] at c
    split at c
    · simp only [Bool.and_eq_true] at c
      obtain ⟨⟨⟨c1, c2⟩, c3⟩, c4⟩ := c
      split at c1
      · rename_i y D e
        simp only [decide_eq_true_eq] at c1; subst c1
        intro fm ho W tk
        refine ps_imp (js_try C (C.ex _ _ _ e) c2 (fun {X'} C' hk => (ihb X' G C').b _ c3) (fun {X'} C' hk => (ihs X' _ C').b _ c4) fm ho W tk) fun d σ H q => ?_
        obtain ⟨z, env, S, d, he, hr, hw, k⟩ := q.of
        simp only [wS, e] at hw
        exact lS.mk he hr hw k
      · cases c1
    · cases c
  | pass =>
    intro X G C
    refine ⟨fun x c => ?_, fun x c => (nomatch c)⟩
    simp only [ckS] at c
    split at c
    · exact js_pass
    · exact js_doc
    · cases c
  | brk =>
    intro X G C
    refine ⟨fun x c => ?_, fun x c => (nomatch c)⟩
    simp only [ckS] at c
    split at c
    · exact js_brk
    · cases c
  | cnt =>
    intro X G C
    refine ⟨fun x c => ?_, fun x c => (nomatch c)⟩
    simp only [ckS] at c
    split at c
    · exact js_cnt
    · cases c

/-! ### a def keeps its promise -/
section
variable {P : Program} {w : World} {K : PySem.W.Frag} {mg : Str → Option Value} {base : Heap}
/-- the def that the module's name x holds, at most k calls deep -/
def FnS (P : Program) (w : World) (K : PySem.W.Frag) (mg : Str → Option Value) (base : Heap) (k : Nat) (x : Str) (sp : TSp) : Prop := ∃ f fd ps j, FnG P w K mg base j f fd ps (lSp K sp) ∧ j ≤ k ∧ mg x = some (.ref f) ∧ PySem.W.keepIn K (.ref f) = true ∧ Binds K fd ps []
/-- what the top leaves of the classes of errors -/
structure ExcS (K : PySem.W.Frag) (mg : Str → Option Value) (x : Str) (C : Addr) : Prop where
  ex : ∃ (bmB : List Value) (B newId initId : String), ExcBaseFacts B newId initId bmB ∧ PySem.W.excIn K C bmB newId = true
  gC : mg x = some (.ref C)
  kC : PySem.W.keepIn K (.ref C) = true
  sb : PySem.W.subIn K (.ref C) (.type "BaseException") = some true
  ty : PySem.W.typeIn K (.ref C) = some (.type "type")
structure StOk (P : Program) (w : World) (K : PySem.W.Frag) (mg : Str → Option Value) (base : Heap) (k : Nat) (G : Gx) : Prop where
  fn : ∀ (i : Nat) x sp, G.fns[i]? = some (x, sp) → FnS P w K mg base k x sp
  cs : ∀ (i : Nat) x t, G.cons[i]? = some (x, t) → ∃ u, mg x = some u ∧ ConK K t u
  bt : ∀ x, x ∈ G.bts → mg x = none
  bf : ∀ x id, (x, id) ∈ G.bfs → mg x = some (.builtin id)
  ex : ∀ (i : Nat) x D, G.exs[i]? = some (x, D) → ExcS K mg x D
  em : ∀ a b m, G.exm a b = some m → PySem.W.exmOne K a b = some m
  sm : ∃ o, base.get? sysModules = some o
theorem FnG.raw {k : Nat} {f : Addr} {name qual : Str} {params : Arguments} {body : List Stmt} {scope : Scope} {dV kV doc pm cdv ct oc : Value} {an od : Option Addr} {osl : Array (Option Value)} {N ps : List Str} {sp : Sp}
    (lk : K.lookup f = some ⟨oc, od, .func (PySem.W.fnOf name qual params body scope dV kV doc pm an cdv ct), osl⟩) (hcd : PySem.W.codeIn K cdv qual = true) (Sc : FnScope N ps scope) (len : ∀ vs H Q E, sp vs H Q E → vs.length = ps.length)
    (hb : ∀ (A : Around) (outer : List PySem.Env) (s : Shared) (H : Hp) (vs : List V) (Q : VK) (E : XK), Room k (A.deeper (envOfC qual scope s.heap.objs.size f cdv)) → A.guards = some [] → sp vs H Q E →
      ∃ t, PSs (cxOf (L2.CX P w) P w K mg base N qual scope f cdv A outer s H E) body t ∧ t { nx := fun _ H' => Q .non H', rt := Q } (L2.start N vs) H) : FnG P w K mg base (k + 1) f (PySem.W.fnOf name qual params body scope dV kV doc pm an cdv ct) ps sp := by
  refine ⟨len, ?_⟩
  intro A outer s H args us vs Q E room gd e0 bd rv hsp
  have kin : K.In s.heap := e0.mod.kin.keeps fun b o q => (e0.bs b o q).1
  have nol : s.heap.NoLimit := e0.mod.nolimit.keeps fun b o q => (e0.bs b o q).1
  have kinds : ∀ y ∈ ps.zip us, scope.names.lookup y.1 = some .local ∨ (scope.names.lookup y.1 = some .cell ∧ ((cellsFrom (s.heap.objs.size + 1) scope.names []).lookup y.1).isSome = true) := by
    rintro ⟨x, u⟩ hy
    exact (Sc.par x (List.of_mem_zip hy).1).imp id fun q => ⟨q, PySem.W.cellsFrom_some _ _ _ (.inl q)⟩
  refine codeAny_call_function room.depth (kin _ _ lk) rfl Sc.co Sc.gen rfl (PySem.W.codeRec_of kin hcd) (bd _ _ _ _ ?_)
  refine wpAny_newFunctionEnv_cells Sc.kind kinds fun env ee s1 x1 => ?_
  subst ee
  refine ⟨nol.keeps x1.toInCall.keep, codeAny_func ?_⟩
  obtain ⟨t, ht, q⟩ := hb A outer s H vs Q E (room.deeper _) gd hsp
  have I0 : Inv (cxOf (L2.CX P w) P w K mg base N qual scope f cdv A outer s H E) [] (L2.start N vs) H s1 := inv_start Sc room.hd e0 (len _ _ _ _ hsp) rv x1
  have fin : ∀ {σ2 : L2.St} {H2 : Hp} {v : V} {u : Value} {s2 : Shared}, Inv (cxOf (L2.CX P w) P w K mg base N qual scope f cdv A outer s H E) [] σ2 H2 s2 → RelV v u → Q v H2 → CE outer P w H s Q u s2 :=
    fun {σ2 H2 v u s2} J r2 q2 => ⟨v, H2, J.os, J.bare, J.base, J.hok, r2, q2⟩
  refine wpAny_mono (ht.run [] s1 (L2.start N vs) H _ I0 q) (fun fl s2 h2 => ?_) fun _ _ h2 => h2
  cases fl with
  | next =>
    obtain ⟨σ2, H2, J, q2⟩ := h2
    exact fin (v := V.non) (u := Value.none) J rfl q2
  | ret u =>
    obtain ⟨v, σ2, H2, J, r2, q2⟩ := h2
    exact fin J r2 q2
  | cont =>
    obtain ⟨_, _, _, q2⟩ := h2
    exact q2.elim
  | brk =>
    obtain ⟨_, _, _, q2⟩ := h2
    exact q2.elim
def startE (N : List Str) (ts : List T) : Env := ts.map some ++ List.replicate (N.length - ts.length) none
theorem start_rel {z : Addr → Prop} {H : Hp} {S : Sto} {N : List Str} {ts : List T} {vs : List V} (r : RTs K z H S ts vs) : EnvR K z H S (startE N ts) (L2.start N vs) := by
  refine ⟨by simp [startE, L2.start, r.len], fun i t e => ?_⟩
  unfold startE at e
  by_cases hi : i < ts.length
  · rw [List.getElem?_append_left (by simpa using hi), List.getElem?_map] at e
    cases e2 : ts[i]? with
    | none => rw [e2] at e; cases e
    | some u =>
      rw [e2] at e; cases e
      obtain ⟨v, h1, h2⟩ := r.get' e2
      refine ⟨v, ?_, h2⟩
      unfold L2.start
      rw [List.getElem?_append_left (by rw [List.length_map, r.len]; exact hi), List.getElem?_map, h1]
      rfl
  · rw [List.getElem?_append_right (by simpa using hi), List.getElem?_replicate] at e
    split at e <;> cases e
theorem def_ok {x qual : Str} {st : Stmt} {f : Addr} {fd : FuncData} {ps : List Str} {k : Nat} {sp : TSp} (G : Gx) (b : Stm) (F : Fun K x qual st f fd) (Sc : FnScope G.N ps (defScope st)) (hsc : G.sc = defScope st) (hc : G.calm = true) (so : StOk P w K mg base k G)
    (ck : (ckS b G).b (defBody st) = true) (hsp : ∀ ts S R X, sp ts S R X → ts.length = ps.length ∧ wS b G (startE G.N ts) S { nx := fun _ S' => R .non S', rt := R, xx := fun _ => X }) : FnG P w K mg base (k + 1) f fd ps (lSp K sp) := by
  obtain ⟨oc, od, kV, doc, pm, an, cdv, ct, osl, rfl, lk, hcd⟩ := F.ex
  refine FnG.raw lk hcd Sc (fun vs H Q E h => ?_) fun A outer s H vs Q E room gd h => ?_
  · obtain ⟨z, ts, S, R, X, r, _, h1, _⟩ := h
    rw [r.len]; exact (hsp _ _ _ _ h1).1
  · have C : CtxOk (cxOf (L2.CX P w) P w K mg base G.N qual (defScope st) f cdv A outer s H E) G :=
      { hN := rfl, nd := Sc.nd, sc := hsc.symm, calm := hc.symm, rm := ⟨by have := room.un; show (A.deeper _).units + 70 < cLine; omega, gd, so.sm⟩,
        fn := fun i x sp e => let ⟨f, fd, ps, j, h1, h2, h3, h4, h5⟩ := so.fn i x sp e; ⟨f, fd, ps, j, h1, room.mono h2, h3, h4, h5⟩,
        cs := so.cs, bt := so.bt, bf := so.bf, cel := fun _ _ => rfl, ex := fun i x D e => let y := so.ex i x D e; ⟨y.ex, y.gC, y.kC, raises_own y.sb y.ty⟩, em := so.em }
    have tk : Takes (cxOf (L2.CX P w) P w K mg base G.N qual (defScope st) f cdv A outer s H E) (fun c d _ H => E c d H) := takes_of rfl rfl rfl rfl
    refine ⟨_, (ok_s b _ G C).b _ ck ⟨rfl, rfl⟩ (passes_of rfl) _ tk, ?_⟩
    obtain ⟨z, ts, S, R, X, r, hr, h1, h2, h3⟩ := h
    refine lS.mk (start_rel r) hr (hsp _ _ _ _ h1).2 ⟨fun e S' σ' H' x1 r1 _ q1 => h2 _ _ _ _ x1 r1 .non q1, fun t S' v H' x1 r1 t1 q1 => h2 _ _ _ _ x1 r1 t1 q1, fun _ _ _ _ _ _ _ q => q.elim, fun _ _ _ _ _ _ _ q => q.elim, fun e y S' σ' c a H' x1 r1 _ xr q1 => h3 _ _ _ _ _ x1 r1 xr q1⟩
end
end TP

set_option maxHeartbeats 4000000
namespace TP
open PySem PySem.Spec PyProof.Rows L2

/-! ### the law's own call -/
def smOk (h : Heap) : Bool := match h.get? sysModules with
  | some o => (match o.data with
    | .seq _ _ => false
    | _ => true)
  | none => false
theorem smOk_of {h : Heap} (e : smOk h = true) : ∃ o, h.get? sysModules = some o ∧ ∀ xs n, o.data ≠ .seq xs n := by
  unfold smOk at e
  split at e
  · rename_i o q
    refine ⟨o, q, fun xs n d => ?_⟩
    rw [d] at e
    cases e
  · cases e
/-- a hook that looks for the dict of modules, too -/
def smHook (k : PySem.W.Hook) : PySem.W.Hook := ⟨k.α × Bool, fun s => (k.obs s, smOk s.heap), fun w => (k.val w, true), fun w h => k.says w h ∧ ∃ o, h.get? sysModules = some o ∧ ∀ xs n, o.data ≠ .seq xs n,
  fun w s e => ⟨k.of w s (congrArg Prod.fst e), smOk_of (congrArg Prod.snd e)⟩, fun w h h' y q => ⟨k.keeps w h h' y.1 q, let ⟨o, e, n⟩ := y.2; ⟨o, q _ _ e, n⟩⟩⟩
def noLists (K : PySem.W.Frag) : Bool := K.all fun p => !(p.2.cls == .type "list")
theorem noLists_of {K : PySem.W.Frag} (e : noLists K = true) {a : Addr} {d : Data} : K.lookup a ≠ some { cls := .type "list", data := d } := fun q => by
  induction K with
  | nil => cases q
  | cons p l ih =>
    unfold noLists at e
    rw [List.all_cons, Bool.and_eq_true] at e
    rw [List.lookup_cons] at q
    split at q
    · have q := Option.some.inj q
      have := e.1
      rw [q] at this
      simp at this
    · exact ih e.2 q
theorem law_callT {P : Program} {w : World} {K : PySem.W.Frag} {mg mb : Str → Option Value} {k : Nat} {fa a : Addr} {fd : FuncData} {x : Str} {sp : TSp} {s₁ : Shared} {vs : List Value} {ns : List Int}
    (KX : K.In s₁.heap) (sm : ∃ o, s₁.heap.get? sysModules = some o ∧ ∀ xs n, o.data ≠ .seq xs n) (hns : s₁.heap.Ns mainGlobals mg) (hb : s₁.heap.Ns builtinsNs mb) (hbb : ∀ x : Str, x ≠ "__name__" → mb x = bootBuiltins x) (hlim : s₁.heap.NoLimit) (hg : s₁.gens = #[])
    (ha : s₁.heap.get? a = some { cls := .type "list", data := .seq vs.toArray }) (hi : IntsAre vs ns) (hl : ns.length ≤ sizeLine) (hr : Room k callerA)
    (F : ∀ base : Heap, K.In base → base.Ns mainGlobals mg → (∃ o, base.get? sysModules = some o) → FnG P w K mg base k fa fd [x] (lSp K sp)) (hbind : ∀ (s : Shared) (u : Value), BindsTo s fd ⟨[u], []⟩ [(x, u)])
    (nl : noLists K = true) (hsp : sp [.scr (ns.map .int)] (fun _ => none) (fun t _ => t = .bl true) fun _ _ => False) :
    codeAny (model P w) callerA (.call (.ref fa) ⟨[.ref a], []⟩) (fun r s' => r = .ok (.ret (.bool true)) ∧ OldK s₁.heap s'.heap ∧ s'.os = s₁.os ∧ AllBare s'.gens) s₁ := by
  have lenV := hi.length
  have hK : K.lookup a = none := by
    cases q : K.lookup a with
    | none => rfl
    | some o =>
      have e := KX a o q
      rw [ha] at e; cases e
      exact absurd q (noLists_of nl)
  let H : Hp := fun b => if b = a then some (.frz { cls := .type "list", data := .seq vs.toArray } (.lst (ns.map V.int))) else none
  have Ha : H a = some (.frz { cls := .type "list", data := .seq vs.toArray } (.lst (ns.map V.int))) := if_pos rfl
  have Hn : ∀ {b}, b ≠ a → H b = none := fun h => if_neg h
  have hok : HOk P w H s₁.heap := fun b u e => by
    by_cases hb : b = a
    · subst hb
      rw [Ha] at e; cases e
      exact ⟨ha, by rw [List.length_map]; exact hl, vs, _, L2.vals_ints hi, ha⟩
    · rw [Hn hb] at e; cases e
  have base_of : ∀ {b : Addr} {o : Obj}, s₁.heap.get? b = some o → b ≠ a → (hidT s₁.heap H).get? b = some o := fun e n => hidT_get e (Hn n)
  have noA : ∀ {b : Addr} {o : Obj} {es : Array DictEntry} {ep : Nat}, s₁.heap.get? b = some o → o.data = .dict es ep → b ≠ a := fun {b o es ep} e d z => by
    subst z
    rw [ha] at e; cases e
    have d' : Data.seq vs.toArray _ = Data.dict es ep := d
    cases d'
  have nsK : ∀ {b : Addr} {m : Str → Option Value}, s₁.heap.Ns b m → (hidT s₁.heap H).Ns b m := fun {b m} ⟨o, es, ep, e, d, r⟩ => ⟨o, es, ep, base_of e (noA e d), d, r⟩
  have hKb : K.In (hidT s₁.heap H) := fun b o e => base_of (KX b o e) fun z => by subst z; rw [hK] at e; cases e
  have hM : Mod K mg (hidT s₁.heap H) := ⟨hKb, nsK hns, ⟨mb, nsK hb, hbb⟩, let ⟨mc, h1, h2⟩ := hlim; ⟨mc, nsK h1, h2⟩⟩
  have e0 : Env0 P w K mg (hidT s₁.heap H) callerA [] s₁ H := ⟨rfl, hM, fun b o e => of_hidT e, Nat.le_of_eq (hidT_size _ _), trivial, fun b hb => absurd (show b ∈ ([] : List Addr) from hb) (by simp), hok, .of_eq hg⟩
  have smB : ∃ o, (hidT s₁.heap H).get? sysModules = some o := by
    obtain ⟨o, e, n⟩ := sm
    refine ⟨o, base_of e fun z => ?_⟩
    rw [z, ha] at e; cases e
    exact n _ _ rfl
  have rts : ∀ ns : List Int, RTs K (fun _ => False) H (fun _ => none) (ns.map .int) (ns.map V.int) := fun ns => by
    induction ns with
    | nil => exact .nil
    | cons n ns ih => exact .cons (.int n) ih
  have lsp : lSp K sp [.ref a] H (fun v _ => v = .bl true) fun _ _ _ => False :=
    ⟨fun _ => False, [.scr (ns.map .int)], fun _ => none, _, _, .cons (.scr Ha ⟨rfl, not_false⟩ (rts ns)) .nil, ⟨(fun _ _ e => by cases e), fun _ e => False.elim e⟩, hsp, fun t S' v H' _ _ r q => by
      subst q; cases r; rfl, fun _ _ _ _ _ _ _ _ q => q⟩
  refine codeAny_mono ((F _ hKb (nsK hns) smB).run callerA [] s₁ H ⟨[.ref a], []⟩ [.ref a] [.ref a] _ _ hr rfl e0 (hbind s₁ (.ref a)) (.cons rfl .nil) lsp) fun r s' h => ?_
  cases r with
  | error e => obtain ⟨_, _, _, _, _, _, _, _, _, _, _, _, q⟩ := h; exact q.elim
  | ok fl =>
    cases fl with
    | next => exact False.elim h
    | brk => exact False.elim h
    | cont => exact False.elim h
    | ret u =>
      obtain ⟨v, H', os, bare, un, hok', r', q⟩ := h
      have q' : v = .bl true := q
      subst q'
      obtain rfl : u = Value.bool true := r'
      refine ⟨rfl, OldK.of_keep fun b o e => ?_, os, bare⟩
      by_cases hb : b = a
      · subst hb
        have z2 := un.frzs b _ _ Ha
        rw [ha] at e; cases e
        exact (hok' b _ z2).1
      · exact un.keep b o e (Hn hb) (by intro z; exact absurd (show b ∈ ([] : List Addr) from z) (by simp)) (by simp)
/-- the goal that the head leaves, from the law's promise over trees -/
theorem walk_T {l : PySem.W.OpenLaw} {n k : Nat} {q : Program} {loose : List Str} {XP : (Str → Option Value) → Heap → Prop} {YP : World → Heap → Prop} {d : DefRec} {K : Params → PySem.W.Frag} {sp : TSp} {x : Str}
    (hn : l.most = some n) (hn2 : n ≤ sizeLine) (hdf : d.params.defaults = []) (hr : Room k callerA)
    (hY : ∀ (w : World) (h : Heap), YP w h → (K w.params).In h ∧ ∃ o, h.get? sysModules = some o ∧ ∀ xs n, o.data ≠ .seq xs n)
    (F : ∀ (w : World) (mg : Str → Option Value) (fa : Addr) (h : Heap), (K w.params).In h → h.Ns mainGlobals mg → mg d.name = some (.ref fa) → noLists (K w.params) = true ∧
      ∃ fd : FuncData, (∀ (s : Shared) (u : Value), BindsTo s fd ⟨[u], []⟩ [(x, u)]) ∧
        ∀ base : Heap, (K w.params).In base → base.Ns mainGlobals mg → (∃ o, base.get? sysModules = some o) → FnG l.prog w (K w.params) mg base k fa fd [x] (lSp (K w.params) sp))
    (hsp : ∀ ns : List Int, ns.length ≤ n → sp [.scr (ns.map .int)] (fun _ => none) (fun t _ => t = .bl true) fun _ _ => False) :
    PySem.W.WalkO q loose XP YP l.row.toRowW d [] (fun f vs => PySem.call f vs) := by
  refine Att.attach_call hn hdf fun w s₀ s₁ mg mb fa o pm cd doc a vs ns G Y ho hd hcd hmg hobj hints hlen hg => ?_
  obtain ⟨KX, sm⟩ := hY w _ Y
  obtain ⟨nl, fd, hb, hF⟩ := F w mg fa _ KX G.T.g hmg
  exact law_callT KX sm G.T.g G.T.b G.T.builtins G.T.nolimit hg hobj hints (Nat.le_trans hlen hn2) hr hF hb nl (hsp ns hlen)
end TP

set_option maxHeartbeats 4000000
namespace TP
open PySem PySem.Spec PyProof.Rows L2

/-! ### how long a shown thing is at most -/
mutual
def big : PyData → Nat
  | .none => 4
  | .bool _ => 5
  | .int _ => 1921
  | .str x => 10 * x.length + 2
  | .list xs => bigs xs + 2
  | .tuple xs => bigs xs + 3
  | .dict kvs => bigk kvs + 2
def bigs : List PyData → Nat
  | [] => 0
  | x :: xs => big x + 2 + bigs xs
def bigk : List (PyData × PyData) → Nat
  | [] => 0
  | (k, v) :: r => big k + big v + 4 + bigk r
end
mutual
def fine : PyData → Bool
  | .none | .bool _ => true
  | .int i => decide (i.natAbs.log2 < 1920)
  | .str x => x.cps.toList.all fun c => decide (c < 4294967296)
  | .list xs | .tuple xs => fines xs
  | .dict kvs => finek kvs
def fines : List PyData → Bool
  | [] => true
  | x :: xs => fine x && fines xs
def finek : List (PyData × PyData) → Bool
  | [] => true
  | (k, v) :: r => fine k && fine v && finek r
end
mutual
theorem fine_show : ∀ d : PyData, fine d = true → d.showable = true
  | .none, _ => rfl
  | .bool _, _ => rfl
  | .int i, h => h
  | .str _, _ => rfl
  | .list xs, h => fines_show xs h
  | .tuple xs, h => fines_show xs h
  | .dict kvs, h => finek_show kvs h
theorem fines_show : ∀ ds : List PyData, fines ds = true → PyData.showableAll ds = true
  | [], _ => rfl
  | x :: xs, h => by
    simp only [fines, Bool.and_eq_true] at h
    simp only [PyData.showableAll, Bool.and_eq_true]
    exact ⟨fine_show x h.1, fines_show xs h.2⟩
theorem finek_show : ∀ ds : List (PyData × PyData), finek ds = true → PyData.showableKv ds = true
  | [], _ => rfl
  | (k, v) :: r, h => by
    simp only [finek, Bool.and_eq_true] at h
    simp only [PyData.showableKv, Bool.and_eq_true]
    exact ⟨⟨fine_show k h.1.1, fine_show v h.1.2⟩, finek_show r h.2⟩
end
def sumL : List Str → Nat
  | [] => 0
  | t :: ts => t.length + 2 + sumL ts
theorem textFrom_le : ∀ (ts : List Str) (k : Nat) (acc : Str), (textFrom k acc ts).length ≤ acc.length + sumL ts
  | [], _, _ => Nat.le_add_right _ _
  | t :: r, k, acc => by
    have h := textFrom_le r (k + 1) (acc ++ (if k > 0 then ", " else "" : String) ++ t)
    have e : (acc ++ (if k > 0 then ", " else "" : String) ++ t).length ≤ acc.length + 2 + t.length := by
      rw [strLen_append, strLen_append]
      have : (Str.ofString (if k > 0 then ", " else "" : String)).length ≤ 2 := by split <;> decide
      omega
    show (textFrom (k + 1) _ r).length ≤ acc.length + (t.length + 2 + sumL r)
    omega
theorem piled_sum : ∀ ts : List Str, piled ts = sumL ts
  | [] => rfl
  | t :: r => by
    have := piled_sum r
    unfold piled at this ⊢
    simp only [List.map_cons, List.sum_cons, this]
    rfl
theorem join_le (ts : List Str) : (Str.join ", " ts).length ≤ sumL ts := by
  by_cases h : ts = []
  · subst h; exact Nat.zero_le _
  · have := join_length_add ts h
    rw [piled_sum] at this
    omega
mutual
theorem shown_le : ∀ d : PyData, fine d = true → d.shown.length ≤ big d
  | .none, _ => by simp only [PyData.shown]; decide
  | .bool b, _ => by cases b <;> (simp only [PyData.shown]; decide)
  | .int i, h => by
    simp only [PyData.shown]
    have := int_text_length_le (a := i) (k := 1920) (by decide) (of_decide_eq_true h)
    rw [PySem.ofString_length]
    exact this
  | .str x, h => by
    simp only [PyData.shown]
    refine PySem.StrLaws.reprText_len x fun c hc => ?_
    have := List.all_eq_true.mp h c hc
    simpa using this
  | .list xs, h => by
    simp only [PyData.shown]
    have h1 := shownAll_le xs h
    have h2 := textFrom_le (PyData.shownAll xs) 0 "["
    show (listText (PyData.shownAll xs)).length ≤ bigs xs + 2
    unfold listText
    rw [strLen_append]
    have e1 : (("[" : Str)).length = 1 := rfl
    have e2 : (("]" : Str)).length = 1 := rfl
    omega
  | .tuple xs, h => by
    simp only [PyData.shown]
    have h1 := shownAll_le xs h
    have h2 := join_le (PyData.shownAll xs)
    show (tupleText (PyData.shownAll xs)).length ≤ bigs xs + 3
    unfold tupleText
    rw [strLen_append, strLen_append]
    have e1 : (("(" : Str)).length = 1 := rfl
    have e2 : (Str.ofString (if (PyData.shownAll xs).length == 1 then ",)" else ")" : String)).length ≤ 2 := by split <;> decide
    omega
  | .dict kvs, h => by
    simp only [PyData.shown]
    have h1 := shownKv_le kvs h
    have h2 := join_le (PyData.shownKv kvs)
    show (dictText (PyData.shownKv kvs)).length ≤ bigk kvs + 2
    unfold dictText
    rw [strLen_append, strLen_append]
    have e1 : (("{" : Str)).length = 1 := rfl
    have e2 : (("}" : Str)).length = 1 := rfl
    omega
theorem shownAll_le : ∀ ds : List PyData, fines ds = true → sumL (PyData.shownAll ds) ≤ bigs ds
  | [], _ => Nat.le_refl _
  | x :: xs, h => by
    simp only [fines, Bool.and_eq_true] at h
    have h1 := shown_le x h.1
    have h2 := shownAll_le xs h.2
    simp only [PyData.shownAll, sumL, bigs]
    omega
theorem shownKv_le : ∀ ds : List (PyData × PyData), finek ds = true → sumL (PyData.shownKv ds) ≤ bigk ds
  | [], _ => Nat.le_refl _
  | (k, v) :: r, h => by
    simp only [finek, Bool.and_eq_true] at h
    have h1 := shown_le k h.1.1
    have h2 := shown_le v h.1.2
    have h3 := shownKv_le r h.2
    simp only [PyData.shownKv, sumL, bigk, strLen_append]
    have e : ((": " : Str)).length = 2 := rfl
    omega
end
theorem showy_of {d : PyData} (h : fine d = true) (dp : d.depth ≤ 60) (b : big d ≤ 16000000) : Showy d := ⟨fine_show d h, dp, Nat.le_trans (shown_le d h) (Nat.le_trans b (by decide))⟩
theorem log_small {i : Int} (h : i.natAbs < 2 ^ 1000) : i.natAbs.log2 < 1920 := by
  by_cases z : i.natAbs = 0
  · rw [z]; decide
  · have := (Nat.log2_lt z).mpr h
    omega
end TP

set_option maxHeartbeats 4000000
namespace TP
open PySem PySem.Spec PyProof.Rows L2

/-! ### the defs as the top has left them -/
def At (K : PySem.W.Frag) (mg : Str → Option Value) (x : Str) (st : Stmt) (ps : List Str) : Prop := ∃ f fd, Fun K x x st f fd ∧ mg x = some (.ref f) ∧ Binds K fd ps []
theorem at_mk {K : PySem.W.Frag} {h : Heap} {mg : Str → Option Value} {x : Str} {st : Stmt} {ps : List Str} (X : K.In h) (G : h.Ns mainGlobals mg) {f : Addr} {oc : Value} {od an : Option Addr} {osl : Array (Option Value)} {kV doc pm cdv ct : Value}
    (a : PySem.W.nsIn K mainGlobals x = some (some (.ref f))) (l : K.lookup f = some ⟨oc, od, .func (PySem.W.fnOf x x (defArgs st) (defBody st) (defScope st) .none kV doc pm an cdv ct), osl⟩) (c : PySem.W.codeIn K cdv x = true) (k : PySem.W.keepIn K (.ref f) = true)
    (hb : ∀ (kV doc pm : Value) (an : Option Addr) (cdv ct : Value) (us : List Value), us.length = ps.length → bindArgs (PySem.W.fnOf x x (defArgs st) (defBody st) (defScope st) .none kV doc pm an cdv ct) ⟨us, []⟩ = pure (ps.zip us)) : At K mg x st ps :=
  ⟨f, _, fun_mk l c k, PySem.W.mg_of X G a, (fun_mk l c k).binds hb⟩
theorem exm_own {K : PySem.W.Frag} {C : Addr} {t : Value} {b : Bool} (xb : PySem.W.subIn K (.ref C) (.type "BaseException") = some true) (xi : PySem.W.isClsIn K C = true) (xt : PySem.W.typeIn K (.ref C) = some (.type "type")) (xs : PySem.W.subIn K t (.ref C) = some b) : PySem.W.exmOne K t (.ref C) = some b := by
  unfold PySem.W.exmOne
  rw [xb, if_pos (by rfl)]
  show (if ((PySem.W.clsIn K C).isSome && PySem.W.typeIn K (.ref C) == some (.type "type")) = true then PySem.W.subIn K t (.ref C) else none) = some b
  have xi' : (PySem.W.clsIn K C).isSome = true := xi
  rw [xi', xt, xs, if_pos (by rfl)]
section
variable {P : Program} {w : World} {K : PySem.W.Frag} {mg : Str → Option Value} {base : Heap}
theorem at_ok {x : Str} {st : Stmt} {ps : List Str} {k : Nat} {sp : TSp} (G : Gx) (b : Stm) (A : At K mg x st ps) (Sc : FnScope G.N ps (defScope st)) (hsc : G.sc = defScope st) (hc : G.calm = true) (so : StOk P w K mg base k G)
    (ck : (ckS b G).b (defBody st) = true) (hsp : ∀ ts S R X, sp ts S R X → ts.length = ps.length ∧ wS b G (startE G.N ts) S { nx := fun _ S' => R .non S', rt := R, xx := fun _ => X }) : FnS P w K mg base (k + 1) x sp := by
  obtain ⟨f, fd, F, e, hb⟩ := A
  exact ⟨f, fd, ps, k + 1, def_ok G b F Sc hsc hc so ck hsp, Nat.le_refl _, e, F.kp, hb⟩
theorem FnS.up {k k' : Nat} {x : Str} {sp : TSp} (h : FnS P w K mg base k x sp) (l : k ≤ k') : FnS P w K mg base k' x sp := let ⟨f, fd, ps, j, a, b, c⟩ := h; ⟨f, fd, ps, j, a, Nat.le_trans b l, c⟩
/-- what a def's names are -/
theorem st_ok {k : Nat} {G : Gx} (fn : ∀ y ∈ G.fns, FnS P w K mg base k y.1 y.2) (cs : G.cons = []) (bt : ∀ x ∈ G.bts, mg x = none) (bf : ∀ y ∈ G.bfs, mg y.1 = some (.builtin y.2)) (ex : ∀ y ∈ G.exs, ExcS K mg y.1 y.2) (em : G.exm = PySem.W.exmOne K) (sm : ∃ o, base.get? sysModules = some o) : StOk P w K mg base k G where
  fn := fun i x sp e => fn (x, sp) (List.mem_of_getElem? e)
  cs := fun i x t e => by rw [cs] at e; simp at e
  bt := bt
  bf := fun x id e => bf (x, id) e
  ex := fun i x D e => ex (x, D) (List.mem_of_getElem? e)
  em := fun a b m e => by rw [em] at e; exact e
  sm := sm
/-- the law's own def, and the goal that the head leaves -/
theorem law_at {x : Str} {st : Stmt} {ps : List Str} {k : Nat} {sp : TSp} {fa : Addr} (A : At K mg x st ps) (hfa : mg x = some (.ref fa)) (h : ∀ fd, Fun K x x st fa fd → FnG P w K mg base k fa fd ps (lSp K sp)) : True := trivial
end
end TP

set_option maxHeartbeats 4000000
namespace TP
open PySem PySem.Spec PyProof.Rows L2

/-! ### the module's plain values -/
section
variable {P : Program} {w : World} {K : PySem.W.Frag} {mg : Str → Option Value} {base : Heap}
theorem st_okc {k : Nat} {G : Gx} (fn : ∀ y ∈ G.fns, FnS P w K mg base k y.1 y.2) (cs : ∀ y ∈ G.cons, ∃ u, mg y.1 = some u ∧ ConK K y.2 u) (bt : ∀ x ∈ G.bts, mg x = none) (bf : ∀ y ∈ G.bfs, mg y.1 = some (.builtin y.2)) (ex : ∀ y ∈ G.exs, ExcS K mg y.1 y.2) (em : G.exm = PySem.W.exmOne K) (sm : ∃ o, base.get? sysModules = some o) : StOk P w K mg base k G where
  fn := fun i x sp e => fn (x, sp) (List.mem_of_getElem? e)
  cs := fun i x t e => cs (x, t) (List.mem_of_getElem? e)
  bt := bt
  bf := fun x id e => bf (x, id) e
  ex := fun i x D e => ex (x, D) (List.mem_of_getElem? e)
  em := fun a b m e => by rw [em] at e; exact e
  sm := sm
theorem con_int {i : Int} {t : Tok} : ConK K (.int i) (.int i t) := ⟨.int i, ⟨t, rfl⟩, fun _ _ _ => .int i⟩
theorem con_none : ConK K .non .none := ⟨.non, rfl, fun _ _ _ => .non⟩
def conV : T → Tok → Option (V × Value)
  | .int i, t => some (.int i, .int i t)
  | .str x, t => some (.str x, .str x t)
  | _, _ => none
theorem con_items {z : Addr → Prop} {H : Hp} {S : Sto} : ∀ {its : List (T × Tok)}, its.all (fun p => (conV p.1 p.2).isSome) = true → ∃ vs, Vals vs (its.map fun p => ((conV p.1 p.2).map (·.2)).getD .none) ∧ ∀ z H S, RTs K z H S (its.map (·.1)) vs
  | [], _ => ⟨[], .nil, fun _ _ _ => .nil⟩
  | (t, k) :: r, h => by
    simp only [List.all_cons, Bool.and_eq_true] at h
    obtain ⟨vs, h1, h2⟩ := con_items (z := z) (H := H) (S := S) (its := r) h.2
    cases t with
    | int i => exact ⟨.int i :: vs, .cons ⟨k, rfl⟩ h1, fun z H S => .cons (.int i) (h2 z H S)⟩
    | str x => exact ⟨.str x :: vs, .cons ⟨k, rfl⟩ h1, fun z H S => .cons (.str x) (h2 z H S)⟩
    | _ => exact absurd h.1 (by simp [conV])
theorem con_tup {a : Addr} {od : Option Addr} {n : Nat} {sl : Array (Option Value)} (its : List (T × Tok)) (l : K.lookup a = some ⟨.type "tuple", od, .seq (its.map fun p => ((conV p.1 p.2).map (·.2)).getD .none).toArray n, sl⟩) (h : its.all (fun p => (conV p.1 p.2).isSome) = true) (m : its.length ≤ 1000) : ConK K (.tup (its.map (·.1))) (.ref a) := by
  obtain ⟨vs, h1, h2⟩ := con_items (K := K) (z := fun _ => False) (H := fun _ => none) (S := fun _ => none) h
  refine ⟨.ref a, rfl, fun z H S => .tupK ⟨_, _, _, l, rfl, rfl, ?_, h1⟩ (h2 z H S)⟩
  simp only [List.size_toArray, List.length_map]
  exact Nat.le_trans m (by decide)
theorem lSp.weak {sp sp' : TSp} (i : ∀ ts S R X, sp' ts S R X → sp ts S R X) {vs : List V} {H : Hp} {Q : VK} {E : XK} (h : lSp K sp' vs H Q E) : lSp K sp vs H Q E := by
  obtain ⟨z, ts, S, R, X, a, b, c, d, e⟩ := h
  exact ⟨z, ts, S, R, X, a, b, i _ _ _ _ c, d, e⟩
theorem FnS.weak {k : Nat} {x : Str} {sp sp' : TSp} (h : FnS P w K mg base k x sp) (i : ∀ ts S R X, sp' ts S R X → sp ts S R X) : FnS P w K mg base k x sp' := by
  obtain ⟨f, fd, ps, j, ⟨h1, h2⟩, b, c⟩ := h
  exact ⟨f, fd, ps, j, ⟨fun vs H Q E q => h1 vs H Q E (q.weak i), fun A outer s H args us vs Q E r g e bd rv q => h2 A outer s H args us vs Q E r g e bd rv (q.weak i)⟩, b, c⟩
end
end TP

set_option maxHeartbeats 4000000
namespace TP
open PySem PySem.Spec PyProof.Rows L2

/-! ### loops and comprehensions by invariants -/
theorem wFor_by {g : Tg} {body : Env → Sto → En → Prop} {gd : Sto → Prop} {D : En} (I : Nat → Env → Sto → Prop) {ts : List T} (hg : ∀ i e s, I i e s → gd s)
    (step : ∀ i t e s (C : Env → Sto → Prop), ts[i]? = some t → I i e s → (∀ e s, I (i + 1) e s → C e s) → gT g t e s fun e' => body e' s { D with nx := C, ct := C, bk := D.nx })
    (done : ∀ e s, I ts.length e s → D.nx e s) {env : Env} {S : Sto} (h0 : I 0 env S) : wFor g body gd ts env S D := by
  have key : ∀ (us : List T) (n : Nat) (env : Env) (S : Sto), n ≤ ts.length → ts.drop n = us → I n env S → wFor g body gd us env S D := by
    intro us
    induction us with
    | nil =>
      intro n env S l e h
      have q : n = ts.length := by
        have := congrArg List.length e
        simp at this
        omega
      subst q
      exact ⟨hg _ _ _ h, done _ _ h⟩
    | cons u us ih =>
      intro n env S _ e h
      have hn : n < ts.length := by
        have := congrArg List.length e
        simp at this
        omega
      have e1 : ts[n]? = some u := by
        rw [List.getElem?_eq_getElem hn]
        rw [List.drop_eq_getElem_cons hn] at e
        exact congrArg some (List.cons.inj e).1
      have e2 : ts.drop (n + 1) = us := by
        rw [List.drop_eq_getElem_cons hn] at e
        exact (List.cons.inj e).2
      exact ⟨hg _ _ _ h, step n u env S _ e1 h fun e' s' h' => ih (n + 1) e' s' hn e2 h'⟩
  exact key ts 0 env S (by simp) (by simp) h0
theorem wLc_map {own : List Nat} {g : Tg} {el : WE1} {gd : Sto → Prop} {env : Env} {S : Sto} {R : List T → Sto → Prop} (f : T → T) (hg : gd S) : ∀ {ts acc : List T}, acc.length + ts.length ≤ sizeLine →
    (∀ t ∈ ts, ∀ C : RP, C (f t) S → gT g t (wipeE env own) S fun env' => el env' S C fun _ _ => False) → R (acc ++ ts.map f) S → wLc own g (fun _ S R _ => R true S) el gd env ts acc S R := by
  intro ts
  induction ts with
  | nil => intro acc _ _ k; exact ⟨hg, by simpa using k⟩
  | cons t ts ih =>
    intro acc hl h k
    refine ⟨hg, by simp at hl; omega, ?_⟩
    simp only [if_true]
    exact h t (by simp) _ (ih (by simp at hl ⊢; omega) (fun u hu => h u (by simp [hu])) (by simpa using k))
theorem tru_bl {S : Sto} {b : Bool} : tru S (.bl b) = some b := rfl
theorem tru_int {S : Sto} {i : Int} : tru S (.int i) = some (i != 0) := rfl
theorem oEq_int {S : Sto} {n : Bool} {i j : Int} {R : RP} : oEq n (.int i) (.int j) S R = R (.bl (n ^^ decide (i = j))) S := rfl
theorem oEq_str {S : Sto} {n : Bool} {i j : Str} {R : RP} : oEq n (.str i) (.str j) S R = R (.bl (n ^^ decide (i = j))) S := rfl
def Free (S : Sto) : Prop := ∃ p, S p = none
theorem frz_lst {S : Sto} {ts : List T} {R : RP} : (∀ p, S p = none → frzT (up S p (.lst ts)) (.ref p) R) = (Free S → R (.lst ts) S) := propext
  ⟨fun h ⟨p, e⟩ => by have := h p e; simpa only [frzT, up_same, rm_up e] using this, fun h p e => by simp only [frzT, up_same, rm_up e]; exact h ⟨p, e⟩⟩
theorem frz_dct {S : Sto} {R : RP} : (∀ p, S p = none → frzT (up S p (.dct [])) (.ref p) R) = (Free S → R (.dct [] []) S) := propext
  ⟨fun h ⟨p, e⟩ => by have := h p e; simpa only [frzT, up_same, rm_up e, List.map_nil] using this, fun h p e => by simp only [frzT, up_same, rm_up e]; exact h ⟨p, e⟩⟩
theorem frz_val {S : Sto} {x : T} {R : RP} (h : ∀ a, x ≠ .ref a) : frzT S x R = R x S := by
  unfold frzT
  split
  · exact absurd rfl (h _)
  · rfl
/-- values that nobody changes, at the top -/
def plain : T → Bool
  | .ref _ => false
  | .ty _ => false
  | _ => true
/-! ### what may be shown, and how -/
def Sh (k m : Nat) (t : T) : Prop := plain t = true ∧ ∃ d, toD t = some d ∧ fine d = true ∧ d.depth ≤ k ∧ big d ≤ m
def shT (t : T) : Str := match toD t with
  | some d => d.shown
  | none => Str.empty
theorem topD_plain {S : Sto} {t : T} (h : plain t = true) : topD S t = toD t := by
  cases t <;> first | rfl | cases h
theorem oRepr_sh {S : Sto} {t : T} {R : RP} (h : Sh 60 16000000 t) : oRepr [t] S R = R (.str (shT t)) S := by
  obtain ⟨hp, d, e, f, a, b⟩ := h
  unfold oRepr
  simp only [topD_plain hp, e, shT, Option.some.injEq, exists_eq_left']
  exact propext ⟨fun q => q.2, fun q => ⟨showy_of f a b, q⟩⟩
theorem Sh.up {k m k' m' : Nat} {t : T} (h : Sh k m t) (a : k ≤ k') (b : m ≤ m') : Sh k' m' t := let ⟨p, d, e, f, x, y⟩ := h; ⟨p, d, e, f, Nat.le_trans x a, Nat.le_trans y b⟩
theorem sh_int {i : Int} (h : i.natAbs < 2 ^ 1000) : Sh 0 1921 (.int i) := ⟨rfl, _, rfl, decide_eq_true (log_small h), Nat.le_refl _, Nat.le_refl _⟩
theorem sh_bl {b : Bool} : Sh 0 5 (.bl b) := ⟨rfl, _, rfl, rfl, Nat.le_refl _, Nat.le_refl _⟩
theorem shs {k m : Nat} : ∀ {ts : List T}, (∀ t ∈ ts, Sh k m t) → ∃ ds, toDs ts = some ds ∧ fines ds = true ∧ PyData.depthAll ds ≤ k ∧ bigs ds ≤ ts.length * (m + 2)
  | [], _ => ⟨[], rfl, rfl, Nat.zero_le _, Nat.zero_le _⟩
  | t :: ts, h => by
    obtain ⟨ds, e1, e2, e3, e4⟩ := shs (ts := ts) fun u hu => h u (by simp [hu])
    obtain ⟨_, d, f1, f2, f3, f4⟩ := h t (by simp)
    refine ⟨d :: ds, by simp [toDs, e1, f1], by simp [fines, e2, f2], ?_, ?_⟩
    · simp only [PyData.depthAll]
      exact Nat.max_le.mpr ⟨f3, e3⟩
    · simp only [bigs, List.length_cons]
      rw [Nat.add_mul]
      omega
theorem sh_tup {k m : Nat} {ts : List T} (h : ∀ t ∈ ts, Sh k m t) : Sh (k + 1) (ts.length * (m + 2) + 3) (.tup ts) := by
  obtain ⟨ds, e1, e2, e3, e4⟩ := shs h
  refine ⟨rfl, .tuple ds, by simp [toD, e1], e2, ?_, ?_⟩
  · simp only [PyData.depth]; omega
  · simp only [big]; omega
theorem sh_lst {k m : Nat} {ts : List T} (h : ∀ t ∈ ts, Sh k m t) : Sh (k + 1) (ts.length * (m + 2) + 3) (.lst ts) := by
  obtain ⟨ds, e1, e2, e3, e4⟩ := shs h
  refine ⟨rfl, .list ds, by simp [toD, e1], e2, ?_, ?_⟩
  · simp only [PyData.depth]; omega
  · simp only [big]; omega
/-- short things that may be shown -/
def shB (t : T) : Bool := plain t && match toD t with
  | some d => fine d && decide (d.depth ≤ 10) && decide (big d ≤ 100000)
  | none => false
theorem sh_of {t : T} (h : shB t = true) : Sh 10 100000 t := by
  unfold shB at h
  rw [Bool.and_eq_true] at h
  refine ⟨h.1, ?_⟩
  have h := h.2
  split at h
  · rename_i d e
    simp only [Bool.and_eq_true, decide_eq_true_eq] at h
    exact ⟨d, e, h.1.1, h.1.2, h.2⟩
  · cases h
/-! ### what the laws' own small defs do -/
def b_l_open_cells_0 : Stm := .cons (.ret (.ddis ["cells", "left", "mixed", "turn"] (.cons (.revl (.var 3)) (.cons (.int 1) (.cons (.var 1) (.cons (.int 0) .nil)))))) .nil
def b_l_open_cells_1 : Stm := .cons (.asg (.nm 3) (.frz (.lc [("_law_cell", 2)] (.nm 2) (.iA (.var 0)) (.blt .abs (.cons (.var 2) .nil))))) b_l_open_cells_0
def b_l_open_cells_2 : Stm := .cons (.asg (.nm 1) (.bin .mod (.blt .int (.cons (.bin .add (.bin .add (.bin .mul (.var 1) (.int 69069)) (.bin .mul (.var 2) (.int 31))) (.int 5)) .nil)) (.int 2147483629))) .nil
def b_l_open_cells_3 : Stm := .cons (.for_ (.nm 2) (.iA (.var 0)) b_l_open_cells_2) b_l_open_cells_1
def b_l_open_cells_4 : Stm := .cons (.asg (.nm 1) (.int 11)) b_l_open_cells_3
def n_l_open_cells : List Str := ["_law_script", "_law_stirred", "_law_cell", "_law_cells"]
abbrev b_l_open_cells : Stm := b_l_open_cells_4
def b_l_pick_0 : Stm := .cons (.ret (.bin .mod (.blt .int (.cons (.bin .div (.var 5) (.int 16)) .nil)) (.var 1))) .nil
def b_l_pick_1 : Stm := .cons (.asg (.nm 5) (.bin .mod (.blt .int (.cons (.bin .add (.bin .mul (.var 5) (.var 5)) (.bin .mul (.var 4) (.int 17))) .nil)) (.int 2147483647))) b_l_pick_0
def b_l_pick_2 : Stm := .cons (.asg (.nm 5) (.bin .mod (.blt .int (.cons (.bin .add (.dget (.var 0) "mixed") (.bin .mul (.var 4) (.int 104729))) .nil)) (.int 998244353))) b_l_pick_1
def b_l_pick_3 : Stm := .cons (.asg (.nm 4) (.dget (.var 0) "turn")) b_l_pick_2
def b_l_pick_4 : Stm := .cons (.subD (.var 0) "turn" (.bin .add (.dget (.var 0) "turn") (.int 1))) b_l_pick_3
def b_l_pick_5 : Stm := .cons (.ret (.bin .mod (.blt .int (.cons (.var 3) .nil)) (.var 1))) .nil
def b_l_pick_6 : Stm := .cons (.subD (.var 0) "left" (.bin .div (.var 3) (.var 1))) b_l_pick_5
def b_l_pick_7 : Stm := .cons (.ifs (.cmp .gt (.var 3) (.int 1)) b_l_pick_6 .nil) b_l_pick_4
def b_l_pick_8 : Stm := .cons (.asg (.nm 3) (.dget (.var 0) "left")) b_l_pick_7
def b_l_pick_9 : Stm := .cons (.subD (.var 0) "left" (.mth .pop (.var 2) .nil)) .nil
def b_l_pick_10 : Stm := .cons (.while_ (.and (.cmp .lt (.dget (.var 0) "left") (.int 2)) (.one (.cmp .gt (.blt .len (.cons (.var 2) .nil)) (.int 0)))) b_l_pick_9) b_l_pick_8
def b_l_pick_11 : Stm := .cons (.asg (.nm 2) (.dget (.var 0) "cells")) b_l_pick_10
def b_l_pick_12 : Stm := .cons (.ifs (.cmp .lt (.var 1) (.int 2)) (.cons (.ret (.int 0)) .nil) .nil) b_l_pick_11
def n_l_pick : List Str := ["_law_source", "_law_most", "_law_cells", "_law_others", "_law_lap", "_law_stirred"]
abbrev b_l_pick : Stm := b_l_pick_12

def n_l_choice_of : List Str := ["_law_source", "_law_things"]
abbrev b_l_choice_of : Stm := (.cons (.ret (.ix (.var 1) (.call 0 (.cons (.var 0) (.cons (.blt .len (.cons (.var 1) .nil)) .nil))))) .nil)
def srcD (c : Addr) (l m t : Int) : List (Key × T) := [(.inr "cells", .ref c), (.inr "left", .int l), (.inr "mixed", .int m), (.inr "turn", .int t)]
theorem src_cells {c : Addr} {l m t : Int} : dlook (srcD c l m t) (.inr "cells") = some (.ref c) := rfl
theorem src_left {c : Addr} {l m t : Int} : dlook (srcD c l m t) (.inr "left") = some (.int l) := rfl
theorem src_mixed {c : Addr} {l m t : Int} : dlook (srcD c l m t) (.inr "mixed") = some (.int m) := rfl
theorem src_turn {c : Addr} {l m t : Int} : dlook (srcD c l m t) (.inr "turn") = some (.int t) := rfl
theorem put_left {c : Addr} {l m t x : Int} : dput (srcD c l m t) (.inr "left") (.int x) = srcD c x m t := rfl
theorem put_turn {c : Addr} {l m t x : Int} : dput (srcD c l m t) (.inr "turn") (.int x) = srcD c l m x := rfl
/-- a source of picks at s, its cells at c -/
def IsSrc (S : Sto) (s c : Addr) : Prop := ∃ (l m t : Int) (cs : List Int), S s = some (.dct (srcD c l m t)) ∧ S c = some (.lst (cs.map .int)) ∧ c ≠ s
def Kept (S S' : Sto) (s c : Addr) : Prop := ∀ b, b ≠ s → b ≠ c → S' b = S b
def spPick : TSp := fun ts S R X => ∃ s c most, ts = [.ref s, .int most] ∧ IsSrc S s c ∧ 1 ≤ most ∧ most < 2 ^ 64 ∧ ∀ k S', 0 ≤ k → k < most → IsSrc S' s c → Kept S S' s c → R (.int k) S'
theorem fmod_in (i : Int) {j : Int} (h : 1 ≤ j) : 0 ≤ i.fmod j ∧ i.fmod j < j := ⟨Int.fmod_nonneg_of_pos _ (by omega), Int.fmod_lt_of_pos _ (by omega)⟩
theorem div_ok {j : Int} (h : 1 ≤ j) (h2 : j < 2 ^ 64) : DivOk j := ⟨by omega, by
  have : j.natAbs.log2 < 64 := (Nat.log2_lt (by omega)).mpr (by omega)
  omega⟩
theorem w_pick_a (G : Gx) (s c : Addr) (most l m t : Int) (cs : List Int) (S : Sto) (R : RP) (X : XP) (D : En) (hD : D.rt = R) (e1 : S s = some (.dct (srcD c l m t))) (e2 : S c = some (.lst (cs.map .int))) (ne : c ≠ s) (h1 : 1 ≤ most) (h2 : most < 2 ^ 64)
    (k : ∀ k S', 0 ≤ k → k < most → IsSrc S' s c → Kept S S' s c → R (.int k) S') : wS b_l_pick_8 G [some (.ref s), some (.int most), some (.ref c), none, none, none] S D := by
  have upS : ∀ l m t, IsSrc (up S s (.dct (srcD c l m t))) s c ∧ Kept S (up S s (.dct (srcD c l m t))) s c := fun l m t => ⟨⟨l, m, t, cs, up_same, (up_ne ne).trans e2, ne⟩, fun b hb _ => up_ne hb⟩
  simp only [b_l_pick_8, b_l_pick_7, wS, sem, Sm.val, Sm.tst, Sm.arg, Sm.itr, boolOf, truthOf, gT, gTs, zipK, seqOf, lstOf, Co.sem, oInt, Bo.sem, oAdd, oSub, oMul, oDiv, oMod, Bf.sem, oLen, oAbs, oInt1, oGcd, oNeg, oIx, Mt.sem, List.getElem?_cons_zero, List.getElem?_cons_succ, List.set_cons_zero, List.set_cons_succ, setAll, frz_lst, frz_dct, tru_bl, tru_int, oEq_int, oEq_str, Bool.false_bne, Bool.true_bne, if_true, if_false, Bool.false_eq_true, reduceIte, Bool.not_true, Bool.not_false, List.cons.injEq, true_and, and_true, List.length_cons, List.length_nil, Option.some.injEq, exists_eq_left', e1, src_left]
  by_cases hl : (1 : Int) < l
  · simp only [b_l_pick_6, b_l_pick_5, wS, sem, Sm.val, Sm.tst, Sm.arg, Sm.itr, boolOf, truthOf, gT, gTs, zipK, seqOf, lstOf, Co.sem, oInt, Bo.sem, oAdd, oSub, oMul, oDiv, oMod, Bf.sem, oLen, oAbs, oInt1, oGcd, oNeg, oIx, Mt.sem, List.getElem?_cons_zero, List.getElem?_cons_succ, List.set_cons_zero, List.set_cons_succ, setAll, frz_lst, frz_dct, tru_bl, tru_int, oEq_int, oEq_str, Bool.false_bne, Bool.true_bne, if_true, if_false, Bool.false_eq_true, reduceIte, Bool.not_true, Bool.not_false, List.cons.injEq, true_and, and_true, List.length_cons, List.length_nil, Option.some.injEq, exists_eq_left', e1, src_left, hl, decide_true, oSetD, put_left]
    refine ⟨div_ok h1 h2, ?_⟩
    refine ⟨by show 4 < sizeLine; decide, ?_⟩
    refine ⟨by omega, ?_⟩
    rw [hD]
    obtain ⟨a, b⟩ := upS (l.fdiv most) m t
    exact k _ _ (fmod_in _ h1).1 (fmod_in _ h1).2 a b
  · simp only [b_l_pick_4, b_l_pick_3, b_l_pick_2, b_l_pick_1, b_l_pick_0, wS, sem, Sm.val, Sm.tst, Sm.arg, Sm.itr, boolOf, truthOf, gT, gTs, zipK, seqOf, lstOf, Co.sem, oInt, Bo.sem, oAdd, oSub, oMul, oDiv, oMod, Bf.sem, oLen, oAbs, oInt1, oGcd, oNeg, oIx, Mt.sem, List.getElem?_cons_zero, List.getElem?_cons_succ, List.set_cons_zero, List.set_cons_succ, setAll, frz_lst, frz_dct, tru_bl, tru_int, oEq_int, oEq_str, Bool.false_bne, Bool.true_bne, if_true, if_false, Bool.false_eq_true, reduceIte, Bool.not_true, Bool.not_false, List.cons.injEq, true_and, and_true, List.length_cons, List.length_nil, Option.some.injEq, exists_eq_left', e1, src_left, src_turn, src_mixed, hl, decide_false, oSetD, put_turn, up_same]
    have f := fmod_in (m + (t + 1) * 104729) (j := 998244353) (by omega)
    refine ⟨by show 4 < sizeLine; decide, .inl (.inr (by omega)), by omega, .inl (.inr (by omega)), .inl (.inr (by omega)), by omega, div_ok (by omega) (by omega), by omega, ?_⟩
    rw [hD]
    obtain ⟨a, b⟩ := upS l m (t + 1)
    exact k _ _ (fmod_in _ h1).1 (fmod_in _ h1).2 a b
theorem w_pick (G : Gx) (N : List Str) (hN : N.length = 6) (ts : List T) (S : Sto) (R : RP) (X : XP) (h : spPick ts S R X) : ts.length = 2 ∧ wS b_l_pick G (startE N ts) S { nx := fun _ S' => R .non S', rt := R, xx := fun _ => X } := by
  obtain ⟨s, c, most, rfl, hs, h1, h2, k⟩ := h
  refine ⟨rfl, ?_⟩
  unfold startE
  rw [hN]
  show wS b_l_pick G [some (.ref s), some (.int most), none, none, none, none] S _
  obtain ⟨l, m, t, cs, e1, e2, ne⟩ := id hs
  simp only [b_l_pick, b_l_pick_12, wS, sem, Sm.val, Sm.tst, Sm.arg, Sm.itr, boolOf, truthOf, gT, gTs, zipK, seqOf, lstOf, Co.sem, oInt, Bo.sem, oAdd, oSub, oMul, oDiv, oMod, Bf.sem, oLen, oAbs, oInt1, oGcd, oNeg, oIx, Mt.sem, List.getElem?_cons_zero, List.getElem?_cons_succ, List.set_cons_zero, List.set_cons_succ, setAll, frz_lst, frz_dct, tru_bl, tru_int, oEq_int, oEq_str, Bool.false_bne, Bool.true_bne, if_true, if_false, Bool.false_eq_true, reduceIte, Bool.not_true, Bool.not_false, List.cons.injEq, true_and, and_true, List.length_cons, List.length_nil, Option.some.injEq, exists_eq_left']
  by_cases hm : most < 2
  · simp only [hm, decide_true, wS, sem, Sm.val, Sm.tst, Sm.arg, Sm.itr, boolOf, truthOf, gT, gTs, zipK, seqOf, lstOf, Co.sem, oInt, Bo.sem, oAdd, oSub, oMul, oDiv, oMod, Bf.sem, oLen, oAbs, oInt1, oGcd, oNeg, oIx, Mt.sem, List.getElem?_cons_zero, List.getElem?_cons_succ, List.set_cons_zero, List.set_cons_succ, setAll, frz_lst, frz_dct, tru_bl, tru_int, oEq_int, oEq_str, Bool.false_bne, Bool.true_bne, if_true, if_false, Bool.false_eq_true, reduceIte, Bool.not_true, Bool.not_false, List.cons.injEq, true_and, and_true, List.length_cons, List.length_nil, Option.some.injEq, exists_eq_left']
    exact k 0 S (by omega) (by omega) hs fun _ _ _ => rfl
  · simp only [hm, decide_false, wS, sem, Sm.val, Sm.tst, Sm.arg, Sm.itr, boolOf, truthOf, gT, gTs, zipK, seqOf, lstOf, Co.sem, oInt, Bo.sem, oAdd, oSub, oMul, oDiv, oMod, Bf.sem, oLen, oAbs, oInt1, oGcd, oNeg, oIx, Mt.sem, List.getElem?_cons_zero, List.getElem?_cons_succ, List.set_cons_zero, List.set_cons_succ, setAll, frz_lst, frz_dct, tru_bl, tru_int, oEq_int, oEq_str, Bool.false_bne, Bool.true_bne, if_true, if_false, Bool.false_eq_true, reduceIte, Bool.not_true, Bool.not_false, List.cons.injEq, true_and, and_true, List.length_cons, List.length_nil, Option.some.injEq, exists_eq_left']
    simp only [b_l_pick_11, wS, sem, Sm.val, Sm.tst, Sm.arg, Sm.itr, boolOf, truthOf, gT, gTs, zipK, seqOf, lstOf, Co.sem, oInt, Bo.sem, oAdd, oSub, oMul, oDiv, oMod, Bf.sem, oLen, oAbs, oInt1, oGcd, oNeg, oIx, Mt.sem, List.getElem?_cons_zero, List.getElem?_cons_succ, List.set_cons_zero, List.set_cons_succ, setAll, frz_lst, frz_dct, tru_bl, tru_int, oEq_int, oEq_str, Bool.false_bne, Bool.true_bne, if_true, if_false, Bool.false_eq_true, reduceIte, Bool.not_true, Bool.not_false, List.cons.injEq, true_and, and_true, List.length_cons, List.length_nil, Option.some.injEq, exists_eq_left', e1, src_cells]
    simp only [b_l_pick_10, wS, sem, Sm.val, Sm.tst, Sm.arg, Sm.itr, boolOf, truthOf, gT, gTs, zipK, seqOf, lstOf, Co.sem, oInt, Bo.sem, oAdd, oSub, oMul, oDiv, oMod, Bf.sem, oLen, oAbs, oInt1, oGcd, oNeg, oIx, Mt.sem, List.getElem?_cons_zero, List.getElem?_cons_succ, List.set_cons_zero, List.set_cons_succ, setAll, frz_lst, frz_dct, tru_bl, tru_int, oEq_int, oEq_str, Bool.false_bne, Bool.true_bne, if_true, if_false, Bool.false_eq_true, reduceIte, Bool.not_true, Bool.not_false, List.cons.injEq, true_and, and_true, List.length_cons, List.length_nil, Option.some.injEq, exists_eq_left']
    refine ⟨fun n env S1 => env = [some (.ref s), some (.int most), some (.ref c), none, none, none] ∧ ∃ l cs, S1 s = some (.dct (srcD c l m t)) ∧ S1 c = some (.lst (cs.map .int)) ∧ Kept S S1 s c ∧ cs.length = n, ⟨cs.length, rfl, l, cs, e1, e2, fun _ _ _ => rfl, rfl⟩, ?_⟩
    rintro n env S1 ⟨rfl, l1, cs1, f1, f2, kp, hn⟩
    have tail : wS b_l_pick_8 G [some (.ref s), some (.int most), some (.ref c), none, none, none] S1 { nx := fun _ S' => R .non S', rt := R, xx := fun _ => X } :=
      w_pick_a G s c most l1 m t cs1 S1 R X _ rfl f1 f2 ne h1 h2 fun j S' a b d e => k j S' a b d fun x hx hy => (e x hx hy).trans (kp x hx hy)
    simp only [wS, sem, Sm.val, Sm.tst, Sm.arg, Sm.itr, boolOf, truthOf, gT, gTs, zipK, seqOf, lstOf, Co.sem, oInt, Bo.sem, oAdd, oSub, oMul, oDiv, oMod, Bf.sem, oLen, oAbs, oInt1, oGcd, oNeg, oIx, Mt.sem, List.getElem?_cons_zero, List.getElem?_cons_succ, List.set_cons_zero, List.set_cons_succ, setAll, frz_lst, frz_dct, tru_bl, tru_int, oEq_int, oEq_str, Bool.false_bne, Bool.true_bne, if_true, if_false, Bool.false_eq_true, reduceIte, Bool.not_true, Bool.not_false, List.cons.injEq, true_and, and_true, List.length_cons, List.length_nil, Option.some.injEq, exists_eq_left', f1, f2, src_left, List.length_map]
    by_cases hl : l1 < 2
    · simp only [hl, decide_true, wS, sem, Sm.val, Sm.tst, Sm.arg, Sm.itr, boolOf, truthOf, gT, gTs, zipK, seqOf, lstOf, Co.sem, oInt, Bo.sem, oAdd, oSub, oMul, oDiv, oMod, Bf.sem, oLen, oAbs, oInt1, oGcd, oNeg, oIx, Mt.sem, List.getElem?_cons_zero, List.getElem?_cons_succ, List.set_cons_zero, List.set_cons_succ, setAll, frz_lst, frz_dct, tru_bl, tru_int, oEq_int, oEq_str, Bool.false_bne, Bool.true_bne, if_true, if_false, Bool.false_eq_true, reduceIte, Bool.not_true, Bool.not_false, List.cons.injEq, true_and, and_true, List.length_cons, List.length_nil, Option.some.injEq, exists_eq_left']
      by_cases hc : (0 : Int) < (cs1.length : Int)
      · simp only [hc, decide_true, wS, sem, Sm.val, Sm.tst, Sm.arg, Sm.itr, boolOf, truthOf, gT, gTs, zipK, seqOf, lstOf, Co.sem, oInt, Bo.sem, oAdd, oSub, oMul, oDiv, oMod, Bf.sem, oLen, oAbs, oInt1, oGcd, oNeg, oIx, Mt.sem, List.getElem?_cons_zero, List.getElem?_cons_succ, List.set_cons_zero, List.set_cons_succ, setAll, frz_lst, frz_dct, tru_bl, tru_int, oEq_int, oEq_str, Bool.false_bne, Bool.true_bne, if_true, if_false, Bool.false_eq_true, reduceIte, Bool.not_true, Bool.not_false, List.cons.injEq, true_and, and_true, List.length_cons, List.length_nil, Option.some.injEq, exists_eq_left']
        simp only [b_l_pick_9, wS, sem, Sm.val, Sm.tst, Sm.arg, Sm.itr, boolOf, truthOf, gT, gTs, zipK, seqOf, lstOf, Co.sem, oInt, Bo.sem, oAdd, oSub, oMul, oDiv, oMod, Bf.sem, oLen, oAbs, oInt1, oGcd, oNeg, oIx, Mt.sem, List.getElem?_cons_zero, List.getElem?_cons_succ, List.set_cons_zero, List.set_cons_succ, setAll, frz_lst, frz_dct, tru_bl, tru_int, oEq_int, oEq_str, Bool.false_bne, Bool.true_bne, if_true, if_false, Bool.false_eq_true, reduceIte, Bool.not_true, Bool.not_false, List.cons.injEq, true_and, and_true, List.length_cons, List.length_nil, Option.some.injEq, exists_eq_left', f2]
        have nz : cs1.length ≠ 0 := by omega
        refine ⟨⟨c, _, rfl, f2⟩, ?_⟩
        simp only [oPop, f2, List.length_map]
        refine ⟨.int cs1[cs1.length - 1], by rw [List.getElem?_map, List.getElem?_eq_getElem (by omega)]; rfl, ?_⟩
        have g1 : up S1 c (.lst (cs1.map T.int).dropLast) s = some (.dct (srcD c l1 m t)) := (up_ne (Ne.symm ne)).trans f1
        simp only [oSetD, g1, put_left]
        refine ⟨by show 4 < sizeLine; decide, cs1.length - 1, by omega, _, cs1.dropLast, up_same, ?_, fun b hb hb' => ?_, by simp⟩
        · rw [up_ne ne, up_same, List.map_dropLast]
        · rw [up_ne hb, up_ne hb']; exact kp b hb hb'
      · simp only [hc, decide_false, wS, sem, Sm.val, Sm.tst, Sm.arg, Sm.itr, boolOf, truthOf, gT, gTs, zipK, seqOf, lstOf, Co.sem, oInt, Bo.sem, oAdd, oSub, oMul, oDiv, oMod, Bf.sem, oLen, oAbs, oInt1, oGcd, oNeg, oIx, Mt.sem, List.getElem?_cons_zero, List.getElem?_cons_succ, List.set_cons_zero, List.set_cons_succ, setAll, frz_lst, frz_dct, tru_bl, tru_int, oEq_int, oEq_str, Bool.false_bne, Bool.true_bne, if_true, if_false, Bool.false_eq_true, reduceIte, Bool.not_true, Bool.not_false, List.cons.injEq, true_and, and_true, List.length_cons, List.length_nil, Option.some.injEq, exists_eq_left']
        exact tail
    · simp only [hl, decide_false, wS, sem, Sm.val, Sm.tst, Sm.arg, Sm.itr, boolOf, truthOf, gT, gTs, zipK, seqOf, lstOf, Co.sem, oInt, Bo.sem, oAdd, oSub, oMul, oDiv, oMod, Bf.sem, oLen, oAbs, oInt1, oGcd, oNeg, oIx, Mt.sem, List.getElem?_cons_zero, List.getElem?_cons_succ, List.set_cons_zero, List.set_cons_succ, setAll, frz_lst, frz_dct, tru_bl, tru_int, oEq_int, oEq_str, Bool.false_bne, Bool.true_bne, if_true, if_false, Bool.false_eq_true, reduceIte, Bool.not_true, Bool.not_false, List.cons.injEq, true_and, and_true, List.length_cons, List.length_nil, Option.some.injEq, exists_eq_left']
      exact tail
def spOpen : TSp := fun ts S R X => ∃ ns : List Int, ts = [.scr (ns.map .int)] ∧ ns.length ≤ 63 ∧ ∀ s c S', S s = none → S c = none → IsSrc S' s c → Kept S S' s c → R (.ref s) S'
theorem w_open (G : Gx) (N : List Str) (hN : N.length = 4) (ts : List T) (S : Sto) (R : RP) (X : XP) (h : spOpen ts S R X) : ts.length = 1 ∧ wS b_l_open_cells G (startE N ts) S { nx := fun _ S' => R .non S', rt := R, xx := fun _ => X } := by
  obtain ⟨ns, rfl, hns, k⟩ := h
  refine ⟨rfl, ?_⟩
  unfold startE
  rw [hN]
  show wS b_l_open_cells G [some (.scr (ns.map .int)), none, none, none] S _
  simp only [b_l_open_cells, b_l_open_cells_4, wS, sem, Sm.val, Sm.tst, Sm.arg, Sm.itr, boolOf, truthOf, gT, gTs, zipK, seqOf, lstOf, Co.sem, oInt, Bo.sem, oAdd, oSub, oMul, oDiv, oMod, Bf.sem, oLen, oAbs, oInt1, oGcd, oNeg, oIx, Mt.sem, List.getElem?_cons_zero, List.getElem?_cons_succ, List.set_cons_zero, List.set_cons_succ, setAll, frz_lst, frz_dct, tru_bl, tru_int, oEq_int, oEq_str, Bool.false_bne, Bool.true_bne, if_true, if_false, Bool.false_eq_true, reduceIte, Bool.not_true, Bool.not_false, List.cons.injEq, true_and, and_true, List.length_cons, List.length_nil, Option.some.injEq, exists_eq_left']
  simp only [b_l_open_cells_3, wS, sem, Sm.val, Sm.tst, Sm.arg, Sm.itr, boolOf, truthOf, gT, gTs, zipK, seqOf, lstOf, Co.sem, oInt, Bo.sem, oAdd, oSub, oMul, oDiv, oMod, Bf.sem, oLen, oAbs, oInt1, oGcd, oNeg, oIx, Mt.sem, List.getElem?_cons_zero, List.getElem?_cons_succ, List.set_cons_zero, List.set_cons_succ, setAll, frz_lst, frz_dct, tru_bl, tru_int, oEq_int, oEq_str, Bool.false_bne, Bool.true_bne, if_true, if_false, Bool.false_eq_true, reduceIte, Bool.not_true, Bool.not_false, List.cons.injEq, true_and, and_true, List.length_cons, List.length_nil, Option.some.injEq, exists_eq_left']
  refine wFor_by (fun _ e s => s = S ∧ ∃ (x : Int) (y : Option T), e = [some (.scr (ns.map .int)), some (.int x), y, none]) (fun _ _ _ _ => trivial) ?_ ?_ ⟨rfl, 11, none, rfl⟩
  · rintro i t e s' C ht ⟨rfl, x, y, rfl⟩ hC
    rw [List.getElem?_map] at ht
    obtain ⟨n, _, rfl⟩ := Option.map_eq_some_iff.mp ht
    simp only [b_l_open_cells_2, wS, sem, Sm.val, Sm.tst, Sm.arg, Sm.itr, boolOf, truthOf, gT, gTs, zipK, seqOf, lstOf, Co.sem, oInt, Bo.sem, oAdd, oSub, oMul, oDiv, oMod, Bf.sem, oLen, oAbs, oInt1, oGcd, oNeg, oIx, Mt.sem, List.getElem?_cons_zero, List.getElem?_cons_succ, List.set_cons_zero, List.set_cons_succ, setAll, frz_lst, frz_dct, tru_bl, tru_int, oEq_int, oEq_str, Bool.false_bne, Bool.true_bne, if_true, if_false, Bool.false_eq_true, reduceIte, Bool.not_true, Bool.not_false, List.cons.injEq, true_and, and_true, List.length_cons, List.length_nil, Option.some.injEq, exists_eq_left']
    exact ⟨.inl (.inr (by omega)), .inl (.inr (by omega)), by omega, hC _ _ ⟨rfl, _, _, rfl⟩⟩
  · rintro e s' ⟨rfl, x, y, rfl⟩
    simp only [b_l_open_cells_1, wS, sem, Sm.val, Sm.tst, Sm.arg, Sm.itr, boolOf, truthOf, gT, gTs, zipK, seqOf, lstOf, Co.sem, oInt, Bo.sem, oAdd, oSub, oMul, oDiv, oMod, Bf.sem, oLen, oAbs, oInt1, oGcd, oNeg, oIx, Mt.sem, List.getElem?_cons_zero, List.getElem?_cons_succ, List.set_cons_zero, List.set_cons_succ, setAll, frz_lst, frz_dct, tru_bl, tru_int, oEq_int, oEq_str, Bool.false_bne, Bool.true_bne, if_true, if_false, Bool.false_eq_true, reduceIte, Bool.not_true, Bool.not_false, List.cons.injEq, true_and, and_true, List.length_cons, List.length_nil, Option.some.injEq, exists_eq_left']
    refine wLc_map (fun t => match t with | .int i => .int (if i < 0 then -i else i) | t => t) trivial (by simp; exact Nat.le_trans hns (by decide)) ?_ fun _ => ?_
    · intro t ht C hC
      obtain ⟨n, _, rfl⟩ := List.mem_map.mp ht
      exact hC
    · simp only [List.nil_append, List.map_map]
      simp only [b_l_open_cells_0, wS, sem, Sm.val, Sm.tst, Sm.arg, Sm.itr, boolOf, truthOf, gT, gTs, zipK, seqOf, lstOf, Co.sem, oInt, Bo.sem, oAdd, oSub, oMul, oDiv, oMod, Bf.sem, oLen, oAbs, oInt1, oGcd, oNeg, oIx, Mt.sem, List.getElem?_cons_zero, List.getElem?_cons_succ, List.set_cons_zero, List.set_cons_succ, setAll, frz_lst, frz_dct, tru_bl, tru_int, oEq_int, oEq_str, Bool.false_bne, Bool.true_bne, if_true, if_false, Bool.false_eq_true, reduceIte, Bool.not_true, Bool.not_false, List.cons.injEq, true_and, and_true, List.length_cons, List.length_nil, Option.some.injEq, exists_eq_left', up_same]
      intro q hq r hr
      have nqr : r ≠ q := fun z => by subst z; rw [up_same] at hr; cases hr
      have hrs : s' r = none := by rw [up_ne nqr] at hr; exact hr
      refine ⟨by rw [up_ne (Ne.symm nqr)]; exact up_same, ?_⟩
      refine k q r _ hq hrs ⟨1, x, 0, (ns.map fun i => if i < 0 then -i else i).reverse, up_same, ?_, nqr⟩ fun b hb hb' => ?_
      · rw [up_ne nqr, up_same, List.map_reverse, List.map_map]
        rfl
      · rw [up_ne hb, up_ne hb', up_ne hb]
theorem at_nat {us : List T} {j : Int} (a : 0 ≤ j) (b : j < (us.length : Int)) : atT us j = some (us[j.toNat]'(by omega)) := by
  unfold atT ixN
  rw [if_pos a, if_pos b]
  exact List.getElem?_eq_getElem _
theorem at_in {us : List T} {j : Int} (a : 0 ≤ j) (b : j < (us.length : Int)) : ∃ t, atT us j = some t ∧ t ∈ us := ⟨_, at_nat a b, List.getElem_mem _⟩
theorem pow_ok {i j : Int} (h : 0 ≤ j ∧ j ≤ 1000000 ∧ i.natAbs < 2 ^ 64) : CPow i j := h
/-- one of the things that are given, at a number that is picked -/
def spChoice : TSp := fun ts S R X => ∃ s c us, ts = [.ref s, .lst us] ∧ IsSrc S s c ∧ us ≠ [] ∧ us.length < 2 ^ 60 ∧ ∀ u S', u ∈ us → IsSrc S' s c → Kept S S' s c → R u S'
theorem w_choice (G : Gx) (N : List Str) (hN : N.length = 2) {x : Str} (hf : G.fns[0]? = some (x, spPick)) (ts : List T) (S : Sto) (R : RP) (X : XP) (h : spChoice ts S R X) : ts.length = 2 ∧ wS b_l_choice_of G (startE N ts) S { nx := fun _ S' => R .non S', rt := R, xx := fun _ => X } := by
  obtain ⟨s, c, us, rfl, hs, h1, h2, k⟩ := h
  refine ⟨rfl, ?_⟩
  unfold startE
  rw [hN]
  show wS b_l_choice_of G [some (.ref s), some (.lst us)] S _
  have l : 0 < us.length := List.length_pos_iff.mpr h1
  simp only [b_l_choice_of, wS, sem, Sm.val, Sm.tst, Sm.arg, Sm.itr, boolOf, truthOf, gT, gTs, zipK, seqOf, lstOf, Co.sem, oInt, Bo.sem, oAdd, oSub, oMul, oDiv, oMod, Bf.sem, oLen, oAbs, oInt1, oGcd, oNeg, oIx, Mt.sem, List.getElem?_cons_zero, List.getElem?_cons_succ, List.set_cons_zero, List.set_cons_succ, setAll, frz_lst, frz_dct, tru_bl, tru_int, oEq_int, oEq_str, Bool.false_bne, Bool.true_bne, if_true, if_false, Bool.false_eq_true, reduceIte, Bool.not_true, Bool.not_false, List.cons.injEq, true_and, and_true, List.length_cons, List.length_nil, Option.some.injEq, exists_eq_left', hf]
  refine ⟨s, c, us.length, rfl, hs, by omega, by omega, fun j S' a b d e => ?_⟩
  simp only [wS, sem, Sm.val, Sm.tst, Sm.arg, Sm.itr, boolOf, truthOf, gT, gTs, zipK, seqOf, lstOf, Co.sem, oInt, Bo.sem, oAdd, oSub, oMul, oDiv, oMod, Bf.sem, oLen, oAbs, oInt1, oGcd, oNeg, oIx, Mt.sem, List.getElem?_cons_zero, List.getElem?_cons_succ, List.set_cons_zero, List.set_cons_succ, setAll, frz_lst, frz_dct, tru_bl, tru_int, oEq_int, oEq_str, Bool.false_bne, Bool.true_bne, if_true, if_false, Bool.false_eq_true, reduceIte, Bool.not_true, Bool.not_false, List.cons.injEq, true_and, and_true, List.length_cons, List.length_nil, Option.some.injEq, exists_eq_left']
  refine ⟨us[j.toNat]'(by omega), ?_, k _ _ (List.getElem_mem _) d e⟩
  exact at_nat a b
end TP

set_option maxHeartbeats 4000000
namespace TP
open PySem PySem.Spec PyProof.Rows L2

/-! ### fractions: the program's own, and the laws' -/

def n_is_number : List Str := ["value"]
abbrev b_is_number : Stm := (.cons (.ret (.and (.isi (.var 0) .int) (.one (.not (.isi (.var 0) .bool))))) .nil)
def b_fraction_0 : Stm := .cons (.ret (.tup (.cons (.bin .div (.var 0) (.var 2)) (.cons (.bin .div (.var 1) (.var 2)) .nil)))) .nil
def b_fraction_1 : Stm := .cons (.asg (.nm 2) (.neg (.var 2))) .nil
def b_fraction_2 : Stm := .cons (.ifs (.cmp .lt (.var 1) (.int 0)) b_fraction_1 .nil) b_fraction_0
def b_fraction_3 : Stm := .cons (.asg (.nm 2) (.blt .gcd (.cons (.var 0) (.cons (.var 1) .nil)))) b_fraction_2
def b_fraction_4 : Stm := .cons (.ifs (.or (.not (.call 0 (.cons (.var 0) .nil))) (.or (.not (.call 0 (.cons (.var 1) .nil))) (.one (.cmp .eq (.var 1) (.int 0))))) (.cons (.raise 0) .nil) .nil) b_fraction_3
def n_fraction : List Str := ["n", "d", "common"]
abbrev b_fraction : Stm := b_fraction_4
def b_is_fraction_0 : Stm := .cons (.ret (.and (.call 0 (.cons (.var 1) .nil)) (.and (.call 0 (.cons (.var 2) .nil)) (.and (.cmp .gt (.var 2) (.int 0)) (.one (.cmp .eq (.blt .gcd (.cons (.var 1) (.cons (.var 2) .nil))) (.int 1))))))) .nil
def b_is_fraction_1 : Stm := .cons (.asg (.tup (.cons (.nm 1) (.cons (.nm 2) .nil))) (.var 0)) b_is_fraction_0
def b_is_fraction_2 : Stm := .cons (.ifs (.or (.not (.isi (.var 0) .tuple)) (.one (.cmp .ne (.blt .len (.cons (.var 0) .nil)) (.int 2)))) (.cons (.ret (.bl false)) .nil) .nil) b_is_fraction_1
def n_is_fraction : List Str := ["value", "n", "d"]
abbrev b_is_fraction : Stm := b_is_fraction_2
def b_l_common_0 : Stm := .cons (.ret (.var 0)) .nil
def b_l_common_1 : Stm := .cons (.par [0, 1] (.cons (.var 1) (.cons (.bin .mod (.var 0) (.var 1)) .nil))) .nil
def b_l_common_2 : Stm := .cons (.while_ (.cmp .ne (.var 1) (.int 0)) b_l_common_1) b_l_common_0
def b_l_common_3 : Stm := .cons (.par [0, 1] (.cons (.blt .abs (.cons (.var 0) .nil)) (.cons (.blt .abs (.cons (.var 1) .nil)) .nil))) b_l_common_2
def n_l_common : List Str := ["_law_a", "_law_b"]
abbrev b_l_common : Stm := b_l_common_3
def b_l_fraction_0 : Stm := .cons (.ret (.tup (.cons (.bin .div (.var 0) (.var 2)) (.cons (.bin .div (.var 1) (.var 2)) .nil)))) .nil
def b_l_fraction_1 : Stm := .cons (.asg (.nm 2) (.bin .mul (.call 0 (.cons (.var 0) (.cons (.var 1) .nil))) (.ife (.cmp .gt (.var 1) (.int 0)) (.int 1) (.bin .sub (.int 0) (.int 1))))) b_l_fraction_0
def n_l_fraction : List Str := ["_law_n", "_law_d", "_law_unit"]
abbrev b_l_fraction : Stm := b_l_fraction_1

def n_l_is_number : List Str := ["_law_value"]
abbrev b_l_is_number : Stm := (.cons (.ret (.and (.isi (.var 0) .int) (.one (.not (.isi (.var 0) .bool))))) .nil)
def b_l_is_fraction_0 : Stm := .cons (.ret (.and (.cmp .gt (.ix (.var 0) (.int 1)) (.int 0)) (.one (.cmp .eq (.call 0 (.cons (.ix (.var 0) (.int 0)) (.cons (.ix (.var 0) (.int 1)) .nil))) (.int 1))))) .nil
def b_l_is_fraction_1 : Stm := .cons (.ifs (.or (.not (.isi (.var 0) .tuple)) (.or (.cmp .ne (.blt .len (.cons (.var 0) .nil)) (.int 2)) (.one (.not (.blt .all (.cons (.frz (.lc [("_law_one", 1)] (.nm 1) (.iA (.var 0)) (.call 1 (.cons (.var 1) .nil)))) .nil)))))) (.cons (.ret (.bl false)) .nil) .nil) b_l_is_fraction_0
def n_l_is_fraction : List Str := ["_law_value", "_law_one"]
abbrev b_l_is_fraction : Stm := b_l_is_fraction_1
def b_l_told_0 : Stm := .cons (.try_ (.cons (.ret (.call 0 (.cons (.var 0) (.cons (.var 1) .nil)))) .nil) 0 (.cons (.ret (.tup (.cons (.str "refused") .nil))) .nil)) .nil
def n_l_told : List Str := ["_law_n", "_law_d"]
abbrev b_l_told : Stm := b_l_told_0
def isInt : T → Bool
  | .int _ => true
  | _ => false
def isTup : T → Bool
  | .tup _ => true
  | _ => false
def kind : T → Ty
  | .non => .none | .bl _ => .bool | .int _ => .int | .str _ => .str | .tup _ => .tuple | .lst _ => .list | .scr _ => .list | .dct _ _ => .dict | _ => .none
theorem typ_plain {S : Sto} {t : T} (h : plain t = true) : typ S t = some (kind t) := by
  cases t <;> first | rfl | cases h
theorem int_kind {t : T} (h : plain t = true) : ((kind t).sub .int && !(kind t).sub .bool) = isInt t := by
  cases t <;> first | rfl | cases h
theorem tup_kind {t : T} (h : plain t = true) : (kind t).sub .tuple = isTup t := by
  cases t <;> first | rfl | cases h
def spNum : TSp := fun ts S R X => ∃ t, ts = [t] ∧ plain t = true ∧ R (.bl (isInt t)) S
theorem oIsi_plain {y : Ty} {t : T} {S : Sto} {R : RP} (h : plain t = true) : oIsi y t S R = R (.bl ((kind t).sub y)) S := by
  unfold oIsi
  rw [typ_plain h]
  simp
theorem w_num (G : Gx) (N : List Str) (hN : N.length = 1) (ts : List T) (S : Sto) (R : RP) (X : XP) (h : spNum ts S R X) : ts.length = 1 ∧ wS b_is_number G (startE N ts) S { nx := fun _ S' => R .non S', rt := R, xx := fun _ => X } := by
  obtain ⟨t, rfl, hp, k⟩ := h
  refine ⟨rfl, ?_⟩
  unfold startE
  rw [hN]
  show wS b_is_number G [some t] S _
  rw [← int_kind hp] at k
  simp only [b_is_number, wS, sem, Sm.val, List.getElem?_cons_zero, oIsi_plain hp]
  cases e : (kind t).sub .int
  · rw [e] at k; exact k
  · rw [e] at k; exact k
/-- the greatest common divisor, with the lower number's sign -/
def un (n d : Int) : Int := (Int.gcd n d : Int) * (if d > 0 then 1 else -1)
def frT (n d : Int) : T := .tup [.int (n.fdiv (un n d)), .int (d.fdiv (un n d))]
def Num (i : Int) : Prop := i.natAbs < 2 ^ 1000
theorem gcd_le {n d : Int} (h : d ≠ 0) : Int.gcd n d ≤ d.natAbs := Nat.le_of_dvd (by omega) (Nat.gcd_dvd_right _ _)
theorem gcd_pos {n d : Int} (h : d ≠ 0) : 0 < Int.gcd n d := Nat.gcd_pos_of_pos_right _ (by omega)
theorem un_ok {n d : Int} (h : d ≠ 0) (b : Num d) : DivOk (un n d) := by
  have h1 := gcd_le (n := n) h
  have h2 := gcd_pos (n := n) h
  have e : (un n d).natAbs = Int.gcd n d := by
    unfold un
    split <;> omega
  have p : un n d ≠ 0 := by omega
  refine ⟨p, ?_⟩
  rw [e]
  have : (Int.gcd n d).log2 < 1000 := (Nat.log2_lt (by omega)).mpr (Nat.lt_of_le_of_lt h1 b)
  omega
/-- fraction(n, d); C is the class that refuses -/
def spFrac (C : Addr) : TSp := fun ts S R X => ∃ a b, ts = [a, b] ∧ plain a = true ∧ plain b = true ∧
  ((∃ n d : Int, a = .int n ∧ b = .int d ∧ d ≠ 0 ∧ Num d ∧ R (frT n d) S) ∨ (¬ (isInt a = true ∧ isInt b = true ∧ b ≠ .int 0) ∧ X ⟨.ref C, none⟩ S))
theorem w_frac {C : Addr} (G : Gx) (N : List Str) (hN : N.length = 3) {x y : Str} (hf : G.fns[0]? = some (x, spNum)) (he : G.exs[0]? = some (y, C)) (ts : List T) (S : Sto) (R : RP) (X : XP) (h : spFrac C ts S R X) : ts.length = 2 ∧ wS b_fraction G (startE N ts) S { nx := fun _ S' => R .non S', rt := R, xx := fun _ => X } := by
  obtain ⟨a, b, rfl, ha, hb, k⟩ := h
  refine ⟨rfl, ?_⟩
  unfold startE
  rw [hN]
  show wS b_fraction G [some a, some b, none] S _
  simp only [b_fraction, b_fraction_4, wS, sem, Sm.val, Sm.tst, Sm.arg, Sm.itr, boolOf, truthOf, gT, gTs, zipK, seqOf, lstOf, Co.sem, oInt, Bo.sem, oAdd, oSub, oMul, oDiv, oMod, Bf.sem, oLen, oAbs, oInt1, oGcd, oNeg, oIx, Mt.sem, List.getElem?_cons_zero, List.getElem?_cons_succ, List.set_cons_zero, List.set_cons_succ, setAll, frz_lst, frz_dct, tru_bl, tru_int, oEq_int, oEq_str, Bool.false_bne, Bool.true_bne, if_true, if_false, Bool.false_eq_true, reduceIte, Bool.not_true, Bool.not_false, List.cons.injEq, true_and, and_true, List.length_cons, List.length_nil, Option.some.injEq, exists_eq_left', hf, he, spNum]
  refine ⟨ha, ?_⟩
  rcases k with ⟨n, d, rfl, rfl, d0, nd, k⟩ | ⟨no, k⟩
  · simp only [isInt, wS, sem, Sm.val, Sm.tst, Sm.arg, Sm.itr, boolOf, truthOf, gT, gTs, zipK, seqOf, lstOf, Co.sem, oInt, Bo.sem, oAdd, oSub, oMul, oDiv, oMod, Bf.sem, oLen, oAbs, oInt1, oGcd, oNeg, oIx, Mt.sem, List.getElem?_cons_zero, List.getElem?_cons_succ, List.set_cons_zero, List.set_cons_succ, setAll, frz_lst, frz_dct, tru_bl, tru_int, oEq_int, oEq_str, Bool.false_bne, Bool.true_bne, if_true, if_false, Bool.false_eq_true, reduceIte, Bool.not_true, Bool.not_false, List.cons.injEq, true_and, and_true, List.length_cons, List.length_nil, Option.some.injEq, exists_eq_left', plain, d0, decide_false]
    simp only [b_fraction_3, b_fraction_2, b_fraction_1, b_fraction_0, wS, sem, Sm.val, Sm.tst, Sm.arg, Sm.itr, boolOf, truthOf, gT, gTs, zipK, seqOf, lstOf, Co.sem, oInt, Bo.sem, oAdd, oSub, oMul, oDiv, oMod, Bf.sem, oLen, oAbs, oInt1, oGcd, oNeg, oIx, Mt.sem, List.getElem?_cons_zero, List.getElem?_cons_succ, List.set_cons_zero, List.set_cons_succ, setAll, frz_lst, frz_dct, tru_bl, tru_int, oEq_int, oEq_str, Bool.false_bne, Bool.true_bne, if_true, if_false, Bool.false_eq_true, reduceIte, Bool.not_true, Bool.not_false, List.cons.injEq, true_and, and_true, List.length_cons, List.length_nil, Option.some.injEq, exists_eq_left']
    have u := un_ok (n := n) d0 nd
    by_cases hd : d < 0
    · have e : un n d = -((n.natAbs.gcd d.natAbs : Nat) : Int) := by
        unfold un
        rw [if_neg (by omega)]
        show ((n.natAbs.gcd d.natAbs : Nat) : Int) * -1 = _
        omega
      simp only [hd, decide_true, if_true]
      rw [← e]
      exact ⟨u, u, by decide, k⟩
    · have e : un n d = ((n.natAbs.gcd d.natAbs : Nat) : Int) := by
        unfold un
        rw [if_pos (by omega)]
        show ((n.natAbs.gcd d.natAbs : Nat) : Int) * 1 = _
        omega
      simp only [hd, decide_false, if_false, Bool.false_eq_true]
      rw [← e]
      exact ⟨u, u, by decide, k⟩
  · cases e1 : isInt a
    · simp only [wS, sem, Sm.val, Sm.tst, Sm.arg, Sm.itr, boolOf, truthOf, gT, gTs, zipK, seqOf, lstOf, Co.sem, oInt, Bo.sem, oAdd, oSub, oMul, oDiv, oMod, Bf.sem, oLen, oAbs, oInt1, oGcd, oNeg, oIx, Mt.sem, List.getElem?_cons_zero, List.getElem?_cons_succ, List.set_cons_zero, List.set_cons_succ, setAll, frz_lst, frz_dct, tru_bl, tru_int, oEq_int, oEq_str, Bool.false_bne, Bool.true_bne, if_true, if_false, Bool.false_eq_true, reduceIte, Bool.not_true, Bool.not_false, List.cons.injEq, true_and, and_true, List.length_cons, List.length_nil, Option.some.injEq, exists_eq_left']
      exact k
    · simp only [wS, sem, Sm.val, Sm.tst, Sm.arg, Sm.itr, boolOf, truthOf, gT, gTs, zipK, seqOf, lstOf, Co.sem, oInt, Bo.sem, oAdd, oSub, oMul, oDiv, oMod, Bf.sem, oLen, oAbs, oInt1, oGcd, oNeg, oIx, Mt.sem, List.getElem?_cons_zero, List.getElem?_cons_succ, List.set_cons_zero, List.set_cons_succ, setAll, frz_lst, frz_dct, tru_bl, tru_int, oEq_int, oEq_str, Bool.false_bne, Bool.true_bne, if_true, if_false, Bool.false_eq_true, reduceIte, Bool.not_true, Bool.not_false, List.cons.injEq, true_and, and_true, List.length_cons, List.length_nil, Option.some.injEq, exists_eq_left']
      refine ⟨hb, ?_⟩
      cases e2 : isInt b
      · simp only [wS, sem, Sm.val, Sm.tst, Sm.arg, Sm.itr, boolOf, truthOf, gT, gTs, zipK, seqOf, lstOf, Co.sem, oInt, Bo.sem, oAdd, oSub, oMul, oDiv, oMod, Bf.sem, oLen, oAbs, oInt1, oGcd, oNeg, oIx, Mt.sem, List.getElem?_cons_zero, List.getElem?_cons_succ, List.set_cons_zero, List.set_cons_succ, setAll, frz_lst, frz_dct, tru_bl, tru_int, oEq_int, oEq_str, Bool.false_bne, Bool.true_bne, if_true, if_false, Bool.false_eq_true, reduceIte, Bool.not_true, Bool.not_false, List.cons.injEq, true_and, and_true, List.length_cons, List.length_nil, Option.some.injEq, exists_eq_left']
        exact k
      · cases b with
        | int d =>
          have z : d = 0 := Classical.byContradiction fun q => no ⟨e1, rfl, fun r => q (T.int.inj r)⟩
          subst z
          simp only [wS, sem, Sm.val, Sm.tst, Sm.arg, Sm.itr, boolOf, truthOf, gT, gTs, zipK, seqOf, lstOf, Co.sem, oInt, Bo.sem, oAdd, oSub, oMul, oDiv, oMod, Bf.sem, oLen, oAbs, oInt1, oGcd, oNeg, oIx, Mt.sem, List.getElem?_cons_zero, List.getElem?_cons_succ, List.set_cons_zero, List.set_cons_succ, setAll, frz_lst, frz_dct, tru_bl, tru_int, oEq_int, oEq_str, Bool.false_bne, Bool.true_bne, if_true, if_false, Bool.false_eq_true, reduceIte, Bool.not_true, Bool.not_false, List.cons.injEq, true_and, and_true, List.length_cons, List.length_nil, Option.some.injEq, exists_eq_left', decide_true]
          exact k
        | _ => cases e2
/-- is it a fraction: two numbers, the lower one above 0, without a common divisor -/
def isFr : T → Bool
  | .tup [.int n, .int d] => decide (0 < d) && decide (Int.gcd n d = 1)
  | _ => false
def spIsFr : TSp := fun ts S R X => ∃ t, ts = [t] ∧ plain t = true ∧ (∀ us, t = .tup us → us.all plain = true) ∧ R (.bl (isFr t)) S
theorem w_isfr (G : Gx) (N : List Str) (hN : N.length = 3) {x : Str} (hf : G.fns[0]? = some (x, spNum)) (ts : List T) (S : Sto) (R : RP) (X : XP) (h : spIsFr ts S R X) : ts.length = 1 ∧ wS b_is_fraction G (startE N ts) S { nx := fun _ S' => R .non S', rt := R, xx := fun _ => X } := by
  obtain ⟨t, rfl, ht, hu, k⟩ := h
  refine ⟨rfl, ?_⟩
  unfold startE
  rw [hN]
  show wS b_is_fraction G [some t, none, none] S _
  simp only [b_is_fraction, b_is_fraction_2, wS, sem, Sm.val, Sm.tst, Sm.arg, Sm.itr, boolOf, truthOf, gT, gTs, zipK, seqOf, lstOf, Co.sem, oInt, Bo.sem, oAdd, oSub, oMul, oDiv, oMod, Bf.sem, oLen, oAbs, oInt1, oGcd, oNeg, oIx, Mt.sem, List.getElem?_cons_zero, List.getElem?_cons_succ, List.set_cons_zero, List.set_cons_succ, setAll, frz_lst, frz_dct, tru_bl, tru_int, oEq_int, oEq_str, Bool.false_bne, Bool.true_bne, if_true, if_false, Bool.false_eq_true, reduceIte, Bool.not_true, Bool.not_false, List.cons.injEq, true_and, and_true, List.length_cons, List.length_nil, Option.some.injEq, exists_eq_left', oIsi_plain ht, tup_kind ht]
  cases t with
  | tup us =>
    have hp := hu us rfl
    simp only [isTup, wS, sem, Sm.val, Sm.tst, Sm.arg, Sm.itr, boolOf, truthOf, gT, gTs, zipK, seqOf, lstOf, Co.sem, oInt, Bo.sem, oAdd, oSub, oMul, oDiv, oMod, Bf.sem, oLen, oAbs, oInt1, oGcd, oNeg, oIx, Mt.sem, List.getElem?_cons_zero, List.getElem?_cons_succ, List.set_cons_zero, List.set_cons_succ, setAll, frz_lst, frz_dct, tru_bl, tru_int, oEq_int, oEq_str, Bool.false_bne, Bool.true_bne, if_true, if_false, Bool.false_eq_true, reduceIte, Bool.not_true, Bool.not_false, List.cons.injEq, true_and, and_true, List.length_cons, List.length_nil, Option.some.injEq, exists_eq_left']
    match us, hp, k with
    | [a, b], hp, k =>
      simp only [List.all_cons, List.all_nil, Bool.and_true, Bool.and_eq_true] at hp
      have ha := hp.1
      have hb := hp.2
      simp only [b_is_fraction_1, b_is_fraction_0, wS, sem, Sm.val, Sm.tst, Sm.arg, Sm.itr, boolOf, truthOf, gT, gTs, zipK, seqOf, lstOf, Co.sem, oInt, Bo.sem, oAdd, oSub, oMul, oDiv, oMod, Bf.sem, oLen, oAbs, oInt1, oGcd, oNeg, oIx, Mt.sem, List.getElem?_cons_zero, List.getElem?_cons_succ, List.set_cons_zero, List.set_cons_succ, setAll, frz_lst, frz_dct, tru_bl, tru_int, oEq_int, oEq_str, Bool.false_bne, Bool.true_bne, if_true, if_false, Bool.false_eq_true, reduceIte, Bool.not_true, Bool.not_false, List.cons.injEq, true_and, and_true, List.length_cons, List.length_nil, Option.some.injEq, exists_eq_left', hf, spNum]
      rw [if_neg (by simp)]
      refine ⟨ha, ?_⟩
      cases a with
      | int n =>
        refine ⟨hb, ?_⟩
        cases b with
        | int d =>
          by_cases hd : 0 < d
          · simp only [hd, decide_true, isInt, isFr, Bool.true_and] at k ⊢
            have e : decide (((n.natAbs.gcd d.natAbs : Nat) : Int) = 1) = decide (Int.gcd n d = 1) := by
              rw [Bool.eq_iff_iff]
              simp only [decide_eq_true_eq]
              show ((n.natAbs.gcd d.natAbs : Nat) : Int) = 1 ↔ n.natAbs.gcd d.natAbs = 1
              omega
            rw [e]; exact k
          · simp only [hd, decide_false, isInt, isFr, Bool.false_and] at k ⊢
            exact k
        | _ => exact k
      | _ => exact k
    | [], _, k => rw [if_pos (by simp)]; exact k
    | [q], _, k =>
      rw [if_pos (by simp)]
      simp only [isFr] at k
      exact k
    | q1 :: q2 :: q3 :: q4, _, k =>
      rw [if_pos (by simp; omega)]
      simp only [isFr] at k
      exact k
  | _ => exact k
/-- the laws' own divisor, by turns -/
def spCommon : TSp := fun ts S R X => ∃ n d : Int, ts = [.int n, .int d] ∧ R (.int (Int.gcd n d : Nat)) S
theorem w_common (G : Gx) (N : List Str) (hN : N.length = 2) (ts : List T) (S : Sto) (R : RP) (X : XP) (h : spCommon ts S R X) : ts.length = 2 ∧ wS b_l_common G (startE N ts) S { nx := fun _ S' => R .non S', rt := R, xx := fun _ => X } := by
  obtain ⟨n, d, rfl, k⟩ := h
  refine ⟨rfl, ?_⟩
  unfold startE
  rw [hN]
  show wS b_l_common G [some (.int n), some (.int d)] S _
  simp only [b_l_common, b_l_common_3, wS, sem, Sm.val, Sm.tst, Sm.arg, Sm.itr, boolOf, truthOf, gT, gTs, zipK, seqOf, lstOf, Co.sem, oInt, Bo.sem, oAdd, oSub, oMul, oDiv, oMod, Bf.sem, oLen, oAbs, oInt1, oGcd, oNeg, oIx, Mt.sem, List.getElem?_cons_zero, List.getElem?_cons_succ, List.set_cons_zero, List.set_cons_succ, setAll, frz_lst, frz_dct, tru_bl, tru_int, oEq_int, oEq_str, Bool.false_bne, Bool.true_bne, if_true, if_false, Bool.false_eq_true, reduceIte, Bool.not_true, Bool.not_false, List.cons.injEq, true_and, and_true, List.length_cons, List.length_nil, Option.some.injEq, exists_eq_left']
  simp only [b_l_common_2, wS, sem, Sm.val, Sm.tst, Sm.arg, Sm.itr, boolOf, truthOf, gT, gTs, zipK, seqOf, lstOf, Co.sem, oInt, Bo.sem, oAdd, oSub, oMul, oDiv, oMod, Bf.sem, oLen, oAbs, oInt1, oGcd, oNeg, oIx, Mt.sem, List.getElem?_cons_zero, List.getElem?_cons_succ, List.set_cons_zero, List.set_cons_succ, setAll, frz_lst, frz_dct, tru_bl, tru_int, oEq_int, oEq_str, Bool.false_bne, Bool.true_bne, if_true, if_false, Bool.false_eq_true, reduceIte, Bool.not_true, Bool.not_false, List.cons.injEq, true_and, and_true, List.length_cons, List.length_nil, Option.some.injEq, exists_eq_left']
  refine ⟨fun m env S' => S' = S ∧ ∃ a b : Nat, env = [some (.int a), some (.int b)] ∧ Nat.gcd a b = Int.gcd n d ∧ m = b, ⟨d.natAbs, rfl, n.natAbs, d.natAbs, ?_, rfl, rfl⟩, ?_⟩
  · have e1 : (if n < 0 then -n else n) = (n.natAbs : Int) := by split <;> omega
    have e2 : (if d < 0 then -d else d) = (d.natAbs : Int) := by split <;> omega
    rw [e1, e2]
  · rintro m env S' ⟨rfl, a, b, rfl, hg, hm⟩
    simp only [wS, sem, Sm.val, Sm.tst, Sm.arg, Sm.itr, boolOf, truthOf, gT, gTs, zipK, seqOf, lstOf, Co.sem, oInt, Bo.sem, oAdd, oSub, oMul, oDiv, oMod, Bf.sem, oLen, oAbs, oInt1, oGcd, oNeg, oIx, Mt.sem, List.getElem?_cons_zero, List.getElem?_cons_succ, List.set_cons_zero, List.set_cons_succ, setAll, frz_lst, frz_dct, tru_bl, tru_int, oEq_int, oEq_str, Bool.false_bne, Bool.true_bne, if_true, if_false, Bool.false_eq_true, reduceIte, Bool.not_true, Bool.not_false, List.cons.injEq, true_and, and_true, List.length_cons, List.length_nil, Option.some.injEq, exists_eq_left']
    by_cases hb : b = 0
    · subst hb
      have q : (!decide (((0 : Nat) : Int) = 0)) = false := rfl
      simp only [q, b_l_common_0, wS, sem, Sm.val, Sm.tst, Sm.arg, Sm.itr, boolOf, truthOf, gT, gTs, zipK, seqOf, lstOf, Co.sem, oInt, Bo.sem, oAdd, oSub, oMul, oDiv, oMod, Bf.sem, oLen, oAbs, oInt1, oGcd, oNeg, oIx, Mt.sem, List.getElem?_cons_zero, List.getElem?_cons_succ, List.set_cons_zero, List.set_cons_succ, setAll, frz_lst, frz_dct, tru_bl, tru_int, oEq_int, oEq_str, Bool.false_bne, Bool.true_bne, if_true, if_false, Bool.false_eq_true, reduceIte, Bool.not_true, Bool.not_false, List.cons.injEq, true_and, and_true, List.length_cons, List.length_nil, Option.some.injEq, exists_eq_left']
      rw [Nat.gcd_zero_right] at hg
      rw [hg]; exact k
    · have q : (!decide ((b : Int) = 0)) = true := by simp; omega
      simp only [q, b_l_common_1, wS, sem, Sm.val, Sm.tst, Sm.arg, Sm.itr, boolOf, truthOf, gT, gTs, zipK, seqOf, lstOf, Co.sem, oInt, Bo.sem, oAdd, oSub, oMul, oDiv, oMod, Bf.sem, oLen, oAbs, oInt1, oGcd, oNeg, oIx, Mt.sem, List.getElem?_cons_zero, List.getElem?_cons_succ, List.set_cons_zero, List.set_cons_succ, setAll, frz_lst, frz_dct, tru_bl, tru_int, oEq_int, oEq_str, Bool.false_bne, Bool.true_bne, if_true, if_false, Bool.false_eq_true, reduceIte, Bool.not_true, Bool.not_false, List.cons.injEq, true_and, and_true, List.length_cons, List.length_nil, Option.some.injEq, exists_eq_left']
      refine ⟨by omega, a % b, by rw [hm]; exact Nat.mod_lt _ (by omega), b, a % b, ⟨rfl, ?_⟩, ?_, rfl⟩
      · rw [Int.fmod_eq_emod_of_nonneg _ (by omega)]
        rfl
      · rw [← hg, Nat.gcd_comm a b, Nat.gcd_rec b a, Nat.gcd_comm]
def spLFrac : TSp := fun ts S R X => ∃ n d : Int, ts = [.int n, .int d] ∧ d ≠ 0 ∧ Num d ∧ R (frT n d) S
theorem w_lfrac (G : Gx) (N : List Str) (hN : N.length = 3) {x : Str} (hf : G.fns[0]? = some (x, spCommon)) (ts : List T) (S : Sto) (R : RP) (X : XP) (h : spLFrac ts S R X) : ts.length = 2 ∧ wS b_l_fraction G (startE N ts) S { nx := fun _ S' => R .non S', rt := R, xx := fun _ => X } := by
  obtain ⟨n, d, rfl, d0, nd, k⟩ := h
  refine ⟨rfl, ?_⟩
  unfold startE
  rw [hN]
  show wS b_l_fraction G [some (.int n), some (.int d), none] S _
  have u := un_ok (n := n) d0 nd
  simp only [b_l_fraction, b_l_fraction_1, b_l_fraction_0, wS, sem, Sm.val, Sm.tst, Sm.arg, Sm.itr, boolOf, truthOf, gT, gTs, zipK, seqOf, lstOf, Co.sem, oInt, Bo.sem, oAdd, oSub, oMul, oDiv, oMod, Bf.sem, oLen, oAbs, oInt1, oGcd, oNeg, oIx, Mt.sem, List.getElem?_cons_zero, List.getElem?_cons_succ, List.set_cons_zero, List.set_cons_succ, setAll, frz_lst, frz_dct, tru_bl, tru_int, oEq_int, oEq_str, Bool.false_bne, Bool.true_bne, if_true, if_false, Bool.false_eq_true, reduceIte, Bool.not_true, Bool.not_false, List.cons.injEq, true_and, and_true, List.length_cons, List.length_nil, Option.some.injEq, exists_eq_left', hf, spCommon]
  refine ⟨n, d, ⟨rfl, rfl⟩, ?_⟩
  by_cases hd : 0 < d
  · have e : un n d = (Int.gcd n d : Int) * 1 := by unfold un; rw [if_pos hd]
    simp only [hd, decide_true, wS, sem, Sm.val, Sm.tst, Sm.arg, Sm.itr, boolOf, truthOf, gT, gTs, zipK, seqOf, lstOf, Co.sem, oInt, Bo.sem, oAdd, oSub, oMul, oDiv, oMod, Bf.sem, oLen, oAbs, oInt1, oGcd, oNeg, oIx, Mt.sem, List.getElem?_cons_zero, List.getElem?_cons_succ, List.set_cons_zero, List.set_cons_succ, setAll, frz_lst, frz_dct, tru_bl, tru_int, oEq_int, oEq_str, Bool.false_bne, Bool.true_bne, if_true, if_false, Bool.false_eq_true, reduceIte, Bool.not_true, Bool.not_false, List.cons.injEq, true_and, and_true, List.length_cons, List.length_nil, Option.some.injEq, exists_eq_left']
    rw [← e]
    exact ⟨.inl (.inr (by omega)), u, u, by decide, k⟩
  · have e : un n d = (Int.gcd n d : Int) * (0 - 1) := by unfold un; rw [if_neg hd]; rfl
    simp only [hd, decide_false, wS, sem, Sm.val, Sm.tst, Sm.arg, Sm.itr, boolOf, truthOf, gT, gTs, zipK, seqOf, lstOf, Co.sem, oInt, Bo.sem, oAdd, oSub, oMul, oDiv, oMod, Bf.sem, oLen, oAbs, oInt1, oGcd, oNeg, oIx, Mt.sem, List.getElem?_cons_zero, List.getElem?_cons_succ, List.set_cons_zero, List.set_cons_succ, setAll, frz_lst, frz_dct, tru_bl, tru_int, oEq_int, oEq_str, Bool.false_bne, Bool.true_bne, if_true, if_false, Bool.false_eq_true, reduceIte, Bool.not_true, Bool.not_false, List.cons.injEq, true_and, and_true, List.length_cons, List.length_nil, Option.some.injEq, exists_eq_left']
    rw [← e]
    exact ⟨.inl (.inr (by omega)), u, u, by decide, k⟩
theorem w_lnum (G : Gx) (N : List Str) (hN : N.length = 1) (ts : List T) (S : Sto) (R : RP) (X : XP) (h : spNum ts S R X) : ts.length = 1 ∧ wS b_l_is_number G (startE N ts) S { nx := fun _ S' => R .non S', rt := R, xx := fun _ => X } := w_num G N hN ts S R X h
theorem w_lisfr (G : Gx) (N : List Str) (hN : N.length = 2) {x y : Str} (hf : G.fns[0]? = some (x, spCommon)) (hf1 : G.fns[1]? = some (y, spNum)) (ts : List T) (S : Sto) (R : RP) (X : XP) (h : spIsFr ts S R X) : ts.length = 1 ∧ wS b_l_is_fraction G (startE N ts) S { nx := fun _ S' => R .non S', rt := R, xx := fun _ => X } := by
  obtain ⟨t, rfl, ht, hu, k⟩ := h
  refine ⟨rfl, ?_⟩
  unfold startE
  rw [hN]
  show wS b_l_is_fraction G [some t, none] S _
  simp only [b_l_is_fraction, b_l_is_fraction_1, wS, sem, Sm.val, Sm.tst, Sm.arg, Sm.itr, boolOf, truthOf, gT, gTs, zipK, seqOf, lstOf, Co.sem, oInt, Bo.sem, oAdd, oSub, oMul, oDiv, oMod, Bf.sem, oLen, oAbs, oInt1, oGcd, oNeg, oIx, Mt.sem, List.getElem?_cons_zero, List.getElem?_cons_succ, List.set_cons_zero, List.set_cons_succ, setAll, frz_lst, frz_dct, tru_bl, tru_int, oEq_int, oEq_str, Bool.false_bne, Bool.true_bne, if_true, if_false, Bool.false_eq_true, reduceIte, Bool.not_true, Bool.not_false, List.cons.injEq, true_and, and_true, List.length_cons, List.length_nil, Option.some.injEq, exists_eq_left', oIsi_plain ht, tup_kind ht]
  cases t with
  | tup us =>
    have hp := hu us rfl
    simp only [isTup, wS, sem, Sm.val, Sm.tst, Sm.arg, Sm.itr, boolOf, truthOf, gT, gTs, zipK, seqOf, lstOf, Co.sem, oInt, Bo.sem, oAdd, oSub, oMul, oDiv, oMod, Bf.sem, oLen, oAbs, oInt1, oGcd, oNeg, oIx, Mt.sem, List.getElem?_cons_zero, List.getElem?_cons_succ, List.set_cons_zero, List.set_cons_succ, setAll, frz_lst, frz_dct, tru_bl, tru_int, oEq_int, oEq_str, Bool.false_bne, Bool.true_bne, if_true, if_false, Bool.false_eq_true, reduceIte, Bool.not_true, Bool.not_false, List.cons.injEq, true_and, and_true, List.length_cons, List.length_nil, Option.some.injEq, exists_eq_left']
    by_cases hl : (us.length : Int) = 2
    · have q : (!decide ((us.length : Int) = 2)) = false := by simp [hl]
      simp only [q, wS, sem, Sm.val, Sm.tst, Sm.arg, Sm.itr, boolOf, truthOf, gT, gTs, zipK, seqOf, lstOf, Co.sem, oInt, Bo.sem, oAdd, oSub, oMul, oDiv, oMod, Bf.sem, oLen, oAbs, oInt1, oGcd, oNeg, oIx, Mt.sem, List.getElem?_cons_zero, List.getElem?_cons_succ, List.set_cons_zero, List.set_cons_succ, setAll, frz_lst, frz_dct, tru_bl, tru_int, oEq_int, oEq_str, Bool.false_bne, Bool.true_bne, if_true, if_false, Bool.false_eq_true, reduceIte, Bool.not_true, Bool.not_false, List.cons.injEq, true_and, and_true, List.length_cons, List.length_nil, Option.some.injEq, exists_eq_left']
      refine wLc_map (fun t => .bl (isInt t)) trivial (by simp; exact Nat.le_trans (show us.length ≤ 2 by omega) (by decide)) ?_ ?_
      · intro u hu2 C hC
        have pu : plain u = true := List.all_eq_true.mp hp u hu2
        simp only [wS, sem, Sm.val, Sm.tst, Sm.arg, Sm.itr, boolOf, truthOf, gT, gTs, zipK, seqOf, lstOf, Co.sem, oInt, Bo.sem, oAdd, oSub, oMul, oDiv, oMod, Bf.sem, oLen, oAbs, oInt1, oGcd, oNeg, oIx, Mt.sem, List.getElem?_cons_zero, List.getElem?_cons_succ, List.set_cons_zero, List.set_cons_succ, setAll, frz_lst, frz_dct, tru_bl, tru_int, oEq_int, oEq_str, Bool.false_bne, Bool.true_bne, if_true, if_false, Bool.false_eq_true, reduceIte, Bool.not_true, Bool.not_false, List.cons.injEq, true_and, and_true, List.length_cons, List.length_nil, Option.some.injEq, exists_eq_left', wipeE, List.map_cons, List.map_nil, List.mapIdx_cons, List.mapIdx_nil, hf1, spNum]
        exact ⟨pu, hC⟩
      · intro _
        simp only [List.nil_append, oAll, lstOf]
        refine ⟨us.map isInt, by rw [List.map_map]; rfl, ?_⟩
        match us, hl, hp, k with
        | [a, b], _, hp, k =>
          cases a with
          | int n => 
            cases b with
            | int d =>
              simp only [isInt, List.map_cons, List.map_nil, List.all_cons, List.all_nil, id, wS, sem, Sm.val, Sm.tst, Sm.arg, Sm.itr, boolOf, truthOf, gT, gTs, zipK, seqOf, lstOf, Co.sem, oInt, Bo.sem, oAdd, oSub, oMul, oDiv, oMod, Bf.sem, oLen, oAbs, oInt1, oGcd, oNeg, oIx, Mt.sem, List.getElem?_cons_zero, List.getElem?_cons_succ, List.set_cons_zero, List.set_cons_succ, setAll, frz_lst, frz_dct, tru_bl, tru_int, oEq_int, oEq_str, Bool.false_bne, Bool.true_bne, if_true, if_false, Bool.false_eq_true, reduceIte, Bool.not_true, Bool.not_false, List.cons.injEq, true_and, and_true, List.length_cons, List.length_nil, Option.some.injEq, exists_eq_left', b_l_is_fraction_0, hf, spCommon]
              rw [if_neg (by decide)]
              refine ⟨.int d, rfl, ?_⟩
              by_cases hd : 0 < d
              · simp only [hd, decide_true, isFr, Bool.true_and] at k ⊢
                refine ⟨.int n, rfl, .int d, rfl, n, d, ⟨rfl, rfl⟩, ?_⟩
                have e : decide (((Int.gcd n d : Nat) : Int) = 1) = decide (Int.gcd n d = 1) := by
                  rw [Bool.eq_iff_iff]
                  simp only [decide_eq_true_eq]
                  omega
                rw [e]; exact k
              · simp only [hd, decide_false, isFr, Bool.false_and] at k ⊢
                exact k
            | _ => exact k
          | _ => exact k
        | [], hl, _, _ => simp at hl
        | [q], hl, _, _ => simp at hl
        | q1 :: q2 :: q3 :: q4, hl, _, _ => simp at hl; omega
    · have q : (!decide ((us.length : Int) = 2)) = true := by simp [hl]
      simp only [q, wS, sem, Sm.val, Sm.tst, Sm.arg, Sm.itr, boolOf, truthOf, gT, gTs, zipK, seqOf, lstOf, Co.sem, oInt, Bo.sem, oAdd, oSub, oMul, oDiv, oMod, Bf.sem, oLen, oAbs, oInt1, oGcd, oNeg, oIx, Mt.sem, List.getElem?_cons_zero, List.getElem?_cons_succ, List.set_cons_zero, List.set_cons_succ, setAll, frz_lst, frz_dct, tru_bl, tru_int, oEq_int, oEq_str, Bool.false_bne, Bool.true_bne, if_true, if_false, Bool.false_eq_true, reduceIte, Bool.not_true, Bool.not_false, List.cons.injEq, true_and, and_true, List.length_cons, List.length_nil, Option.some.injEq, exists_eq_left']
      have e : isFr (.tup us) = false := by
        unfold isFr
        split
        · rename_i e; cases e; simp at hl
        · rfl
      rw [← e]; exact k
  | _ => exact k
/-- what fraction tells, or that it refuses -/
def tdT : T → T → T
  | .int n, .int d => if d = 0 then .tup [.str "refused"] else frT n d
  | _, _ => .tup [.str "refused"]
def spTold : TSp := fun ts S R X => ∃ a b, ts = [a, b] ∧ plain a = true ∧ plain b = true ∧ (∀ d, b = .int d → Num d) ∧ R (tdT a b) S
theorem w_told {C : Addr} (G : Gx) (N : List Str) (hN : N.length = 2) {x y : Str} (hf : G.fns[0]? = some (x, spFrac C)) (he : G.exs[0]? = some (y, C)) (hm : G.exm (.ref C) (.ref C) = some true) (ts : List T) (S : Sto) (R : RP) (X : XP) (h : spTold ts S R X) : ts.length = 2 ∧ wS b_l_told G (startE N ts) S { nx := fun _ S' => R .non S', rt := R, xx := fun _ => X } := by
  obtain ⟨a, b, rfl, ha, hb, nd, k⟩ := h
  refine ⟨rfl, ?_⟩
  unfold startE
  rw [hN]
  show wS b_l_told G [some a, some b] S _
  simp only [b_l_told, b_l_told_0, wS, sem, Sm.val, Sm.tst, Sm.arg, Sm.itr, boolOf, truthOf, gT, gTs, zipK, seqOf, lstOf, Co.sem, oInt, Bo.sem, oAdd, oSub, oMul, oDiv, oMod, Bf.sem, oLen, oAbs, oInt1, oGcd, oNeg, oIx, Mt.sem, List.getElem?_cons_zero, List.getElem?_cons_succ, List.set_cons_zero, List.set_cons_succ, setAll, frz_lst, frz_dct, tru_bl, tru_int, oEq_int, oEq_str, Bool.false_bne, Bool.true_bne, if_true, if_false, Bool.false_eq_true, reduceIte, Bool.not_true, Bool.not_false, List.cons.injEq, true_and, and_true, List.length_cons, List.length_nil, Option.some.injEq, exists_eq_left', hf, he, spFrac]
  refine ⟨a, b, ⟨rfl, rfl⟩, ha, hb, ?_⟩
  by_cases q : isInt a = true ∧ isInt b = true ∧ b ≠ .int 0
  · left
    obtain ⟨q1, q2, q3⟩ := q
    cases a with
    | int n =>
      cases b with
      | int d =>
        have d0 : d ≠ 0 := fun e => q3 (by rw [e])
        simp only [tdT, if_neg d0] at k
        exact ⟨n, d, rfl, rfl, d0, nd d rfl, k⟩
      | _ => cases q2
    | _ => cases q1
  · right
    refine ⟨q, true, hm, ?_⟩
    simp only [wS, sem, Sm.val, Sm.tst, Sm.arg, Sm.itr, boolOf, truthOf, gT, gTs, zipK, seqOf, lstOf, Co.sem, oInt, Bo.sem, oAdd, oSub, oMul, oDiv, oMod, Bf.sem, oLen, oAbs, oInt1, oGcd, oNeg, oIx, Mt.sem, List.getElem?_cons_zero, List.getElem?_cons_succ, List.set_cons_zero, List.set_cons_succ, setAll, frz_lst, frz_dct, tru_bl, tru_int, oEq_int, oEq_str, Bool.false_bne, Bool.true_bne, if_true, if_false, Bool.false_eq_true, reduceIte, Bool.not_true, Bool.not_false, List.cons.injEq, true_and, and_true, List.length_cons, List.length_nil, Option.some.injEq, exists_eq_left']
    refine ⟨by decide, ?_⟩
    have e : tdT a b = .tup [.str "refused"] := by
      cases a with
      | int n =>
        cases b with
        | int d =>
          have d0 : d = 0 := Classical.byContradiction fun e => q ⟨rfl, rfl, fun z => e (T.int.inj z)⟩
          simp only [tdT, if_pos d0]
        | _ => rfl
      | _ => rfl
    rw [← e]; exact k
/-! ### the one form -/
theorem un_mul {n d t : Int} (h : 0 < t) : un (n * t) (d * t) = un n d * t := by
  unfold un
  have e : (Int.gcd (n * t) (d * t) : Int) = (Int.gcd n d : Int) * t := by
    rw [Int.gcd_mul_right]
    have : ((t.natAbs : Nat) : Int) = t := by omega
    rw [Int.natCast_mul, this]
  rw [e, Int.mul_right_comm]
  congr 2
  have p : d * t > 0 ↔ d > 0 := ⟨fun q => Classical.byContradiction fun z => by
    have y : 0 ≤ (-d) * t := Int.mul_nonneg (by omega) (by omega)
    rw [Int.neg_mul] at y
    omega, fun q => Int.mul_pos q h⟩
  by_cases q : d > 0
  · rw [if_pos q, if_pos (p.mpr q)]
  · rw [if_neg q, if_neg (fun z => q (p.mp z))]
theorem frT_mul {n d t : Int} (h : 0 < t) : frT (n * t) (d * t) = frT n d := by
  unfold frT
  rw [un_mul h, Int.mul_fdiv_mul_of_pos_left _ _ h, Int.mul_fdiv_mul_of_pos_left _ _ h]
theorem un_neg {n d : Int} (h : d ≠ 0) : un (-n) (-d) = -un n d := by
  unfold un
  rw [Int.neg_gcd, Int.gcd_neg]
  by_cases q : d > 0
  · rw [if_pos q, if_neg (by omega)]; omega
  · rw [if_neg q, if_pos (by omega)]; omega
theorem frT_neg {n d : Int} (h : d ≠ 0) : frT (-n) (-d) = frT n d := by
  unfold frT
  rw [un_neg h, Int.neg_fdiv_neg, Int.neg_fdiv_neg]
theorem fdiv_abs {i j : Int} (h : j ∣ i) (z : j ≠ 0) : (i.fdiv j).natAbs ≤ i.natAbs := by
  have e := Int.mul_fdiv_cancel_of_dvd h
  have e2 : j.natAbs * (i.fdiv j).natAbs = i.natAbs := by rw [← Int.natAbs_mul, e]
  rw [← e2]
  exact Nat.le_mul_of_pos_left _ (by omega)
theorem un_dvd {n d : Int} : un n d ∣ n ∧ un n d ∣ d := by
  unfold un
  split
  · rw [Int.mul_one]; exact ⟨Int.gcd_dvd_left .., Int.gcd_dvd_right ..⟩
  · have e : (Int.gcd n d : Int) * -1 = -(Int.gcd n d : Int) := by omega
    rw [e]; exact ⟨Int.neg_dvd.mpr (Int.gcd_dvd_left ..), Int.neg_dvd.mpr (Int.gcd_dvd_right ..)⟩
theorem un_ne {n d : Int} (h : d ≠ 0) : un n d ≠ 0 := by
  have := gcd_pos (n := n) h
  unfold un
  split <;> omega
theorem sh_two {a b : T} {k m : Nat} (ha : Sh k m a) (hb : Sh k m b) : Sh (k + 1) (2 * (m + 2) + 3) (.tup [a, b]) := sh_tup fun t ht => by
  simp only [List.mem_cons, List.not_mem_nil, or_false] at ht
  rcases ht with rfl | rfl <;> assumption
theorem sh_frT {n d : Int} (h : d ≠ 0) (a : Num n) (b : Num d) : Sh 1 3849 (frT n d) :=
  sh_two (sh_int (Nat.lt_of_le_of_lt (fdiv_abs un_dvd.1 (un_ne h)) a)) (sh_int (Nat.lt_of_le_of_lt (fdiv_abs un_dvd.2 (un_ne h)) b))
end TP

set_option maxHeartbeats 4000000
namespace TP
open PySem PySem.Spec PyProof.Rows L2

/-! ### numbers, odd things -/
def b_l_number_0 : Stm := .cons (.ret (.ife (.cmp .gt (.var 1) (.int 1)) (.bin .sub (.call 0 (.cons (.var 0) (.cons (.int 25) .nil))) (.int 12)) (.bin .sub (.bin .add (.bin .mul (.call 0 (.cons (.var 0) (.cons (.int 44721) .nil))) (.int 44721)) (.call 0 (.cons (.var 0) (.cons (.int 44721) .nil)))) (.int 999999999)))) .nil
def b_l_number_1 : Stm := .cons (.ifs (.cmp .eq (.var 1) (.int 0)) (.cons (.ret (.ix (.frz (.lst (.cons (.bin .sub (.bin .pow (.int 10) (.int 9)) (.int 1)) (.cons (.bin .sub (.int 1) (.bin .pow (.int 10) (.int 9))) (.cons (.bin .pow (.int 2) (.int 29)) (.cons (.bin .pow (.int 3) (.int 18)) (.cons (.int 360360) .nil))))))) (.call 0 (.cons (.var 0) (.cons (.int 5) .nil))))) .nil) .nil) b_l_number_0
def b_l_number_2 : Stm := .cons (.asg (.nm 1) (.call 0 (.cons (.var 0) (.cons (.int 9) .nil)))) b_l_number_1
def n_l_number : List Str := ["_law_source", "_law_kind"]
abbrev b_l_number : Stm := b_l_number_2

def n_l_odd_part : List Str := ["_law_source"]
abbrev b_l_odd_part : Stm := (.cons (.ret (.call 0 (.cons (.var 0) (.cons (.frz (.lst (.cons .non (.cons (.bl true) (.cons (.bl false) (.cons (.str "1") (.cons (.frz (.lst (.cons (.int 1) .nil))) (.cons (.tup (.cons (.int 1) .nil)) (.cons (.frz .dnew) (.cons (.str "") .nil)))))))))) .nil)))) .nil)
def b_l_odd_0 : Stm := .cons (.ret (.call 0 (.cons (.var 0) (.cons (.var 1) .nil)))) .nil
def b_l_odd_1 : Stm := .cons (.asg (.nm 1) (.frz (.bin .add (.var 1) (.frz (.lst (.cons (.tup (.cons (.tup (.cons (.int 0) (.cons (.int 1) .nil))) .nil)) (.cons (.tup (.cons (.tup (.cons (.int 1) (.cons (.int 2) .nil))) (.cons (.tup (.cons (.int 0) (.cons (.int 1) .nil))) .nil))) (.cons (.frz (.lst (.cons (.tup (.cons (.int 1) (.cons (.int 2) .nil))) .nil))) (.cons (.tup (.cons (.tup (.cons (.int 1) (.cons (.int 2) .nil))) (.cons (.tup (.cons (.int 2) (.cons (.int 4) .nil))) .nil))) (.cons (.tup (.cons (.tup (.cons (.int 1) (.cons (.int 2) .nil))) (.cons .non .nil))) (.cons (.tup (.cons (.bin .pow (.int 10) (.int 30)) (.cons (.int 1) .nil))) (.cons (.int 5) (.cons (.neg (.int 1)) (.cons (.int 0) (.cons (.int 1) .nil))))))))))))))) b_l_odd_0
def b_l_odd_2 : Stm := .cons (.asg (.nm 1) (.frz (.bin .add (.var 1) (.frz (.lst (.cons (.tup (.cons (.int 0) (.cons (.bl true) .nil))) (.cons (.tup (.cons (.int 1) (.cons (.bl false) .nil))) (.cons (.tup (.cons (.frz (.lst (.cons (.int 1) .nil))) (.cons (.int 2) .nil))) (.cons (.tup (.cons (.int 1) (.cons (.frz (.lst (.cons (.int 2) .nil))) .nil))) (.cons (.tup (.cons (.tup (.cons (.int 1) (.cons (.int 2) .nil))) (.cons (.int 3) .nil))) (.cons (.tup (.cons (.int 0) (.cons (.int 0) .nil))) (.cons (.tup (.cons (.int 2) (.cons (.int 4) .nil))) (.cons (.tup (.cons (.int 1) (.cons (.neg (.int 1)) .nil))) (.cons (.tup (.cons (.int 0) (.cons (.int 2) .nil))) (.cons (.tup (.cons (.int 0) (.cons (.int 1) .nil))) (.cons (.tup (.cons (.int 3) (.cons (.int 0) .nil))) .nil)))))))))))))))) b_l_odd_1
def b_l_odd_3 : Stm := .cons (.asg (.nm 1) (.frz (.lst (.cons .non (.cons (.bl true) (.cons (.bl false) (.cons (.str "a") (.cons (.str "") (.cons (.tup .nil) (.cons (.frz (.lst .nil)) (.cons (.frz .dnew) (.cons (.tup (.cons (.int 1) .nil)) (.cons (.frz (.lst (.cons (.int 1) (.cons (.int 2) .nil)))) (.cons (.tup (.cons (.int 1) (.cons (.int 2) (.cons (.int 3) .nil)))) (.cons (.str "12") (.cons (.tup (.cons .non (.cons (.int 1) .nil))) (.cons (.tup (.cons (.int 1) (.cons .non .nil))) (.cons (.tup (.cons (.int 1) (.cons (.str "a") .nil))) (.cons (.tup (.cons (.bl true) (.cons (.int 1) .nil))) .nil))))))))))))))))))) b_l_odd_2
def n_l_odd : List Str := ["_law_source", "_law_some"]
abbrev b_l_odd : Stm := b_l_odd_3
def b_l_drawn_0 : Stm := .cons (.ret (.call 0 (.cons (.call 1 (.cons (.var 0) .nil)) (.cons (.ife (.cmp .ne (.var 1) (.int 0)) (.var 1) (.int 7)) .nil)))) .nil
def b_l_drawn_1 : Stm := .cons (.asg (.nm 1) (.call 1 (.cons (.var 0) .nil))) b_l_drawn_0
def n_l_drawn : List Str := ["_law_source", "_law_lower"]
abbrev b_l_drawn : Stm := b_l_drawn_1
theorem wLc_by {own : List Nat} {g : Tg} {el : WE1} {gd : Sto → Prop} {env : Env} {R : List T → Sto → Prop} (I : List T → Sto → Prop) (hg : ∀ acc S, I acc S → gd S) (hR : ∀ acc S, I acc S → acc.length < sizeLine) {ts : List T} :
    (∀ t acc S (C : RP), t ∈ ts → I acc S → acc.length < ts.length → (∀ r S2, I (acc ++ [r]) S2 → C r S2) → gT g t (wipeE env own) S fun env' => el env' S C fun _ _ => False) → (∀ acc S, I acc S → acc.length = ts.length → R acc S) → ∀ {S}, I [] S → wLc own g (fun _ S R _ => R true S) el gd env ts [] S R := by
  intro step fin S h0
  have key : ∀ (us : List T) (acc : List T) (S : Sto), (∀ u ∈ us, u ∈ ts) → acc.length + us.length = ts.length → I acc S → wLc own g (fun _ S R _ => R true S) el gd env us acc S R := by
    intro us
    induction us with
    | nil => intro acc S _ l h; exact ⟨hg _ _ h, fin _ _ h (by simpa using l)⟩
    | cons u us ih =>
      intro acc S hu l h
      refine ⟨hg _ _ h, hR _ _ h, ?_⟩
      simp only [if_true]
      exact step u acc S _ (hu u (by simp)) h (by simp at l; omega) fun r S2 h2 => ih (acc ++ [r]) S2 (fun v hv => hu v (by simp [hv])) (by simp at l ⊢; omega) h2
  exact key ts [] S (fun _ h => h) (by simp) h0
def kidB (t : T) : Bool := plain t && (match t with | .tup us => us.all plain | _ => true)
def deepB (t : T) : Bool := plain t && (match t with | .tup us => us.all kidB | _ => true)
def okPart (u : T) : Bool := kidB u && deepB u && !isInt u && shB u
def okOdd (u : T) : Bool := kidB u && deepB u && shB u
/-- a thing that the source gives -/
def spGive (p : T → Prop) : TSp := fun ts S R X => ∃ s c, ts = [.ref s] ∧ IsSrc S s c ∧ ∀ u S', p u → IsSrc S' s c → Kept S S' s c → R u S'
def Nine (u : T) : Prop := ∃ i : Int, u = .int i ∧ -2000000000 ≤ i ∧ i ≤ 2000000000
theorem Kept.tr {S S1 S2 : Sto} {s c : Addr} (a : Kept S S1 s c) (b : Kept S1 S2 s c) : Kept S S2 s c := fun x h1 h2 => (b x h1 h2).trans (a x h1 h2)
theorem pick_of {S1 : Sto} {s c : Addr} {m : Int} {R1 : RP} {X : XP} (hs : IsSrc S1 s c) (h1 : 1 ≤ m) (h2 : m < 2 ^ 64) (k : ∀ k S', 0 ≤ k → k < m → IsSrc S' s c → Kept S1 S' s c → R1 (.int k) S') : spPick [.ref s, .int m] S1 R1 X :=
  ⟨s, c, m, rfl, hs, h1, h2, k⟩
theorem w_number (G : Gx) (N : List Str) (hN : N.length = 2) {x : Str} (hf : G.fns[0]? = some (x, spPick)) (ts : List T) (S : Sto) (R : RP) (X : XP) (h : spGive Nine ts S R X) : ts.length = 1 ∧ wS b_l_number G (startE N ts) S { nx := fun _ S' => R .non S', rt := R, xx := fun _ => X } := by
  obtain ⟨s, c, rfl, hs, k⟩ := h
  refine ⟨rfl, ?_⟩
  unfold startE
  rw [hN]
  show wS b_l_number G [some (.ref s), none] S _
  simp only [b_l_number, b_l_number_2, wS, sem, Sm.val, Sm.tst, Sm.arg, Sm.itr, boolOf, truthOf, gT, gTs, zipK, seqOf, lstOf, Co.sem, oInt, Bo.sem, oAdd, oSub, oMul, oDiv, oMod, Bf.sem, oLen, oAbs, oInt1, oGcd, oNeg, oIx, Mt.sem, List.getElem?_cons_zero, List.getElem?_cons_succ, List.set_cons_zero, List.set_cons_succ, setAll, frz_lst, frz_dct, tru_bl, tru_int, oEq_int, oEq_str, Bool.false_bne, Bool.true_bne, if_true, if_false, Bool.false_eq_true, reduceIte, Bool.not_true, Bool.not_false, List.cons.injEq, true_and, and_true, List.length_cons, List.length_nil, Option.some.injEq, exists_eq_left', hf]
  refine pick_of hs (by omega) (by omega) fun j S1 a b d e => ?_
  simp only [b_l_number_1, b_l_number_0, wS, sem, Sm.val, Sm.tst, Sm.arg, Sm.itr, boolOf, truthOf, gT, gTs, zipK, seqOf, lstOf, Co.sem, oInt, Bo.sem, oAdd, oSub, oMul, oDiv, oMod, Bf.sem, oLen, oAbs, oInt1, oGcd, oNeg, oIx, Mt.sem, List.getElem?_cons_zero, List.getElem?_cons_succ, List.set_cons_zero, List.set_cons_succ, setAll, frz_lst, frz_dct, tru_bl, tru_int, oEq_int, oEq_str, Bool.false_bne, Bool.true_bne, if_true, if_false, Bool.false_eq_true, reduceIte, Bool.not_true, Bool.not_false, List.cons.injEq, true_and, and_true, List.length_cons, List.length_nil, Option.some.injEq, exists_eq_left', oPow, hf]
  by_cases h0 : j = 0
  · simp only [h0, decide_true, if_true]
    refine ⟨pow_ok (by decide), pow_ok (by decide), pow_ok (by decide), pow_ok (by decide), by decide, fun _ => pick_of d (by omega) (by omega) fun i S2 a b d e2 => ?_⟩
    simp only
    obtain ⟨t, e1, e3⟩ := at_in (us := [T.int (10 ^ Int.toNat 9 - 1), T.int (1 - 10 ^ Int.toNat 9), T.int (2 ^ Int.toNat 29), T.int (3 ^ Int.toNat 18), T.int 360360]) a b
    refine ⟨t, e1, k _ S2 ?_ d (e.tr e2)⟩
    simp only [List.mem_cons, List.not_mem_nil, or_false] at e3
    rcases e3 with rfl | rfl | rfl | rfl | rfl <;> exact ⟨_, rfl, by decide +kernel, by decide +kernel⟩
  · simp only [h0, decide_false, Bool.false_eq_true, if_false]
    by_cases h1 : 1 < j
    · simp only [h1, decide_true, if_true]
      refine pick_of d (by omega) (by omega) fun i S2 a b d e2 => ?_
      exact k _ _ ⟨_, rfl, by omega, by omega⟩ d (e.tr e2)
    · simp only [h1, decide_false, Bool.false_eq_true, if_false]
      refine pick_of d (by omega) (by omega) fun i S2 a b d e2 => ?_
      refine ⟨.inl (.inr (by omega)), pick_of d (by omega) (by omega) fun i2 S3 a2 b2 d e3 => ?_⟩
      exact k _ _ ⟨_, rfl, by omega, by omega⟩ d ((e.tr e2).tr e3)
theorem w_part (G : Gx) (N : List Str) (hN : N.length = 1) {x : Str} (hf : G.fns[0]? = some (x, spChoice)) (ts : List T) (S : Sto) (R : RP) (X : XP) (h : spGive (fun u => okPart u = true) ts S R X) : ts.length = 1 ∧ wS b_l_odd_part G (startE N ts) S { nx := fun _ S' => R .non S', rt := R, xx := fun _ => X } := by
  obtain ⟨s, c, rfl, hs, k⟩ := h
  refine ⟨rfl, ?_⟩
  unfold startE
  rw [hN]
  show wS b_l_odd_part G [some (.ref s)] S _
  simp only [b_l_odd_part, wS, sem, Sm.val, Sm.tst, Sm.arg, Sm.itr, boolOf, truthOf, gT, gTs, zipK, seqOf, lstOf, Co.sem, oInt, Bo.sem, oAdd, oSub, oMul, oDiv, oMod, Bf.sem, oLen, oAbs, oInt1, oGcd, oNeg, oIx, Mt.sem, List.getElem?_cons_zero, List.getElem?_cons_succ, List.set_cons_zero, List.set_cons_succ, setAll, frz_lst, frz_dct, tru_bl, tru_int, oEq_int, oEq_str, Bool.false_bne, Bool.true_bne, if_true, if_false, Bool.false_eq_true, reduceIte, Bool.not_true, Bool.not_false, List.cons.injEq, true_and, and_true, List.length_cons, List.length_nil, Option.some.injEq, exists_eq_left', hf]
  repeat (first | refine And.intro (by decide) ?_ | intro _)
  exact ⟨s, c, _, rfl, hs, by simp, by simp, fun u S' hu h e => k u S' (List.all_eq_true.mp (by decide +kernel) u hu) h e⟩
theorem w_odd (G : Gx) (N : List Str) (hN : N.length = 2) {x : Str} (hf : G.fns[0]? = some (x, spChoice)) (ts : List T) (S : Sto) (R : RP) (X : XP) (h : spGive (fun u => okOdd u = true) ts S R X) : ts.length = 1 ∧ wS b_l_odd G (startE N ts) S { nx := fun _ S' => R .non S', rt := R, xx := fun _ => X } := by
  obtain ⟨s, c, rfl, hs, k⟩ := h
  refine ⟨rfl, ?_⟩
  unfold startE
  rw [hN]
  show wS b_l_odd G [some (.ref s), none] S _
  simp only [b_l_odd, b_l_odd_3, b_l_odd_2, b_l_odd_1, b_l_odd_0, wS, sem, Sm.val, Sm.tst, Sm.arg, Sm.itr, boolOf, truthOf, gT, gTs, zipK, seqOf, lstOf, Co.sem, oInt, Bo.sem, oAdd, oSub, oMul, oDiv, oMod, Bf.sem, oLen, oAbs, oInt1, oGcd, oNeg, oIx, Mt.sem, List.getElem?_cons_zero, List.getElem?_cons_succ, List.set_cons_zero, List.set_cons_succ, setAll, frz_lst, frz_dct, tru_bl, tru_int, oEq_int, oEq_str, Bool.false_bne, Bool.true_bne, if_true, if_false, Bool.false_eq_true, reduceIte, Bool.not_true, Bool.not_false, List.cons.injEq, true_and, and_true, List.length_cons, List.length_nil, Option.some.injEq, exists_eq_left', oPow, hf]
  repeat (first | refine And.intro (by decide) ?_ | refine And.intro (pow_ok (by decide)) ?_ | intro _)
  exact ⟨s, c, _, rfl, hs, by simp, by simp, fun u S' hu h e => k u S' (List.all_eq_true.mp (by decide +kernel) u hu) h e⟩
theorem num_small {i : Int} (h : -10000000000000 ≤ i ∧ i ≤ 10000000000000) : Num i := Nat.lt_of_lt_of_le (show i.natAbs < 2 ^ 60 by omega) (Nat.pow_le_pow_right (by omega) (by omega))
theorem sh_small {i : Int} (h : -10000000000000 ≤ i ∧ i ≤ 10000000000000) : Sh 10 100000 (.int i) := (sh_int (num_small h)).up (by omega) (by omega)
/-- a pair of numbers of some size, such as the law's fractions are -/
def IsF (t : T) : Prop := ∃ n d : Int, t = .tup [.int n, .int d] ∧ n.natAbs ≤ 2000000000 ∧ d.natAbs ≤ 2000000000 ∧ 0 < d ∧ Int.gcd n d = 1
theorem un_abs {n d : Int} : (un n d).natAbs = Int.gcd n d := by
  unfold un
  split <;> omega
theorem frT_one {n d : Int} (h : d ≠ 0) : 0 < d.fdiv (un n d) ∧ Int.gcd (n.fdiv (un n d)) (d.fdiv (un n d)) = 1 := by
  have en := Int.mul_fdiv_cancel_of_dvd (un_dvd (n := n) (d := d)).1
  have ed := Int.mul_fdiv_cancel_of_dvd (un_dvd (n := n) (d := d)).2
  have gp := gcd_pos (n := n) h
  constructor
  · refine Classical.byContradiction fun q => ?_
    have q' : 0 ≤ -(d.fdiv (un n d)) := by omega
    by_cases p : d > 0
    · have up : 0 ≤ un n d := by unfold un; rw [if_pos p]; omega
      have := Int.mul_nonneg up q'
      rw [Int.mul_neg, ed] at this
      omega
    · have up : 0 ≤ -un n d := by unfold un; rw [if_neg p]; omega
      have := Int.mul_nonneg up q'
      rw [Int.neg_mul_neg, ed] at this
      omega
  · have e : Int.gcd n d = (un n d).natAbs * Int.gcd (n.fdiv (un n d)) (d.fdiv (un n d)) := by
      rw [← Int.gcd_mul_left, en, ed]
    rw [un_abs] at e
    have e2 : Int.gcd n d * 1 = Int.gcd n d * Int.gcd (n.fdiv (un n d)) (d.fdiv (un n d)) := by omega
    exact (Nat.eq_of_mul_eq_mul_left gp e2).symm
theorem frT_isF {n d : Int} (h : d ≠ 0) (a : n.natAbs ≤ 2000000000) (b : d.natAbs ≤ 2000000000) : IsF (frT n d) :=
  ⟨_, _, rfl, Nat.le_trans (fdiv_abs un_dvd.1 (un_ne h)) a, Nat.le_trans (fdiv_abs un_dvd.2 (un_ne h)) b, (frT_one h).1, (frT_one h).2⟩
theorem w_drawn (G : Gx) (N : List Str) (hN : N.length = 2) {x y : Str} (hf : G.fns[0]? = some (x, spLFrac)) (hf1 : G.fns[1]? = some (y, spGive Nine)) (ts : List T) (S : Sto) (R : RP) (X : XP) (h : spGive IsF ts S R X) : ts.length = 1 ∧ wS b_l_drawn G (startE N ts) S { nx := fun _ S' => R .non S', rt := R, xx := fun _ => X } := by
  obtain ⟨s, c, rfl, hs, k⟩ := h
  refine ⟨rfl, ?_⟩
  unfold startE
  rw [hN]
  show wS b_l_drawn G [some (.ref s), none] S _
  simp only [b_l_drawn, b_l_drawn_1, b_l_drawn_0, wS, sem, Sm.val, Sm.tst, Sm.arg, Sm.itr, boolOf, truthOf, gT, gTs, zipK, seqOf, lstOf, Co.sem, oInt, Bo.sem, oAdd, oSub, oMul, oDiv, oMod, Bf.sem, oLen, oAbs, oInt1, oGcd, oNeg, oIx, Mt.sem, List.getElem?_cons_zero, List.getElem?_cons_succ, List.set_cons_zero, List.set_cons_succ, setAll, frz_lst, frz_dct, tru_bl, tru_int, oEq_int, oEq_str, Bool.false_bne, Bool.true_bne, if_true, if_false, Bool.false_eq_true, reduceIte, Bool.not_true, Bool.not_false, List.cons.injEq, true_and, and_true, List.length_cons, List.length_nil, Option.some.injEq, exists_eq_left', hf, hf1]
  refine ⟨s, c, rfl, hs, fun u S1 ⟨d, e1, d1, d2⟩ hs1 k1 => ?_⟩
  subst e1
  simp only [wS, sem, Sm.val, Sm.tst, Sm.arg, Sm.itr, boolOf, truthOf, gT, gTs, zipK, seqOf, lstOf, Co.sem, oInt, Bo.sem, oAdd, oSub, oMul, oDiv, oMod, Bf.sem, oLen, oAbs, oInt1, oGcd, oNeg, oIx, Mt.sem, List.getElem?_cons_zero, List.getElem?_cons_succ, List.set_cons_zero, List.set_cons_succ, setAll, frz_lst, frz_dct, tru_bl, tru_int, oEq_int, oEq_str, Bool.false_bne, Bool.true_bne, if_true, if_false, Bool.false_eq_true, reduceIte, Bool.not_true, Bool.not_false, List.cons.injEq, true_and, and_true, List.length_cons, List.length_nil, Option.some.injEq, exists_eq_left']
  refine ⟨s, c, rfl, hs1, fun v S2 ⟨n, e2, n1, n2⟩ hs2 k2 => ?_⟩
  subst e2
  by_cases z : d = 0
  · simp only [z, decide_true, Bool.not_true, wS, sem, Sm.val, Sm.tst, Sm.arg, Sm.itr, boolOf, truthOf, gT, gTs, zipK, seqOf, lstOf, Co.sem, oInt, Bo.sem, oAdd, oSub, oMul, oDiv, oMod, Bf.sem, oLen, oAbs, oInt1, oGcd, oNeg, oIx, Mt.sem, List.getElem?_cons_zero, List.getElem?_cons_succ, List.set_cons_zero, List.set_cons_succ, setAll, frz_lst, frz_dct, tru_bl, tru_int, oEq_int, oEq_str, Bool.false_bne, Bool.true_bne, if_true, if_false, Bool.false_eq_true, reduceIte, Bool.not_true, Bool.not_false, List.cons.injEq, true_and, and_true, List.length_cons, List.length_nil, Option.some.injEq, exists_eq_left']
    exact ⟨n, 7, rfl, by omega, num_small (by omega), k _ _ (frT_isF (by omega) (by omega) (by omega)) hs2 (k1.tr k2)⟩
  · simp only [z, decide_false, Bool.not_false, wS, sem, Sm.val, Sm.tst, Sm.arg, Sm.itr, boolOf, truthOf, gT, gTs, zipK, seqOf, lstOf, Co.sem, oInt, Bo.sem, oAdd, oSub, oMul, oDiv, oMod, Bf.sem, oLen, oAbs, oInt1, oGcd, oNeg, oIx, Mt.sem, List.getElem?_cons_zero, List.getElem?_cons_succ, List.set_cons_zero, List.set_cons_succ, setAll, frz_lst, frz_dct, tru_bl, tru_int, oEq_int, oEq_str, Bool.false_bne, Bool.true_bne, if_true, if_false, Bool.false_eq_true, reduceIte, Bool.not_true, Bool.not_false, List.cons.injEq, true_and, and_true, List.length_cons, List.length_nil, Option.some.injEq, exists_eq_left']
    exact ⟨n, d, rfl, z, num_small (by omega), k _ _ (frT_isF z (by omega) (by omega)) hs2 (k1.tr k2)⟩
end TP

set_option maxHeartbeats 1000000
namespace TP
open PySem PySem.Spec PyProof.Rows L2

/-! ### the one form is one -/
def NF (n d : Int) : Prop := 0 < d ∧ Int.gcd n d = 1
theorem dvd_of {a b c : Int} (h : a ∣ b * c) (g : Int.gcd a b = 1) : a ∣ c := by
  have h1 : a.natAbs ∣ b.natAbs * c.natAbs := by rw [← Int.natAbs_mul]; exact Int.natAbs_dvd_natAbs.mpr h
  have h2 : Nat.Coprime a.natAbs b.natAbs := g
  exact Int.natAbs_dvd_natAbs.mp (h2.dvd_of_dvd_mul_left h1)
theorem nf_one {n d n' d' : Int} (a : NF n d) (b : NF n' d') (e : n * d' = n' * d) : n = n' ∧ d = d' := by
  have h1 : d ∣ d' := dvd_of (a := d) (b := n) (c := d') ⟨n', by rw [e, Int.mul_comm]⟩ (by rw [Int.gcd_comm]; exact a.2)
  have h2 : d' ∣ d := dvd_of (a := d') (b := n') (c := d) ⟨n, by rw [← e, Int.mul_comm]⟩ (by rw [Int.gcd_comm]; exact b.2)
  have hd : d = d' := Int.le_antisymm (Int.le_of_dvd b.1 h1) (Int.le_of_dvd a.1 h2)
  subst hd
  exact ⟨Int.eq_of_mul_eq_mul_right (by have := a.1; omega) e, rfl⟩
theorem frT_nf {n d : Int} (h : d ≠ 0) : NF (n.fdiv (un n d)) (d.fdiv (un n d)) := frT_one h
theorem frT_eq {n d : Int} (h : d ≠ 0) : n.fdiv (un n d) * d = n * d.fdiv (un n d) := by
  have en := Int.mul_fdiv_cancel_of_dvd (un_dvd (n := n) (d := d)).1
  have ed := Int.mul_fdiv_cancel_of_dvd (un_dvd (n := n) (d := d)).2
  calc n.fdiv (un n d) * d = n.fdiv (un n d) * (un n d * d.fdiv (un n d)) := by rw [ed]
    _ = (un n d * n.fdiv (un n d)) * d.fdiv (un n d) := by rw [← Int.mul_assoc, Int.mul_comm (n.fdiv (un n d))]
    _ = n * d.fdiv (un n d) := by rw [en]
/-- a fraction in the one form is what it is told of -/
theorem frT_of {n d n' d' : Int} (h : d ≠ 0) (b : NF n' d') (e : n' * d = n * d') : frT n d = .tup [.int n', .int d'] := by
  have e2 : n.fdiv (un n d) * d' = n' * d.fdiv (un n d) := by
    have q := frT_eq (n := n) h
    have e3 : (n.fdiv (un n d) * d') * d = (n' * d.fdiv (un n d)) * d := by
      calc (n.fdiv (un n d) * d') * d = (n.fdiv (un n d) * d) * d' := by rw [Int.mul_right_comm]
        _ = (n * d.fdiv (un n d)) * d' := by rw [q]
        _ = (n * d') * d.fdiv (un n d) := by rw [Int.mul_right_comm]
        _ = (n' * d) * d.fdiv (un n d) := by rw [e]
        _ = (n' * d.fdiv (un n d)) * d := by rw [Int.mul_right_comm]
    exact Int.eq_of_mul_eq_mul_right h e3
  obtain ⟨a1, a2⟩ := nf_one (frT_nf h) b e2
  unfold frT
  rw [a1, a2]
end TP

set_option maxHeartbeats 1000000
namespace TP
open PySem PySem.Spec PyProof.Rows L2

/-! ### sums in the one form, as the program makes them -/
theorem gcd_one_of {a b : Int} (h : ∀ g : Int, g ∣ a → g ∣ b → g ∣ 1) : Int.gcd a b = 1 := by
  have q := h (Int.gcd a b : Int) (Int.gcd_dvd_left ..) (Int.gcd_dvd_right ..)
  have q2 : Int.gcd a b ∣ 1 := by exact_mod_cast q
  exact Nat.dvd_one.mp q2
theorem dvd_one_of {a b g : Int} (h : Int.gcd a b = 1) (x : g ∣ a) (y : g ∣ b) : g ∣ 1 := by
  have : g ∣ (Int.gcd a b : Int) := Int.dvd_coe_gcd x y
  rw [h] at this
  exact this
theorem gcd_mul {a b c : Int} (x : Int.gcd a b = 1) (y : Int.gcd a c = 1) : Int.gcd a (b * c) = 1 := gcd_one_of fun g h1 h2 => by
  have e : Int.gcd g b = 1 := gcd_one_of fun k k1 k2 => dvd_one_of x (Int.dvd_trans k1 h1) k2
  exact dvd_one_of y h1 (dvd_of h2 e)
theorem split_gcd {m n : Int} (h : m ≠ 0) : ∃ a b : Int, m = (Int.gcd m n : Int) * a ∧ n = (Int.gcd m n : Int) * b ∧ Int.gcd a b = 1 ∧ m.fdiv (Int.gcd m n : Int) = a ∧ n.fdiv (Int.gcd m n : Int) = b := by
  obtain ⟨a, ea⟩ : (Int.gcd m n : Int) ∣ m := Int.gcd_dvd_left ..
  obtain ⟨b, eb⟩ : (Int.gcd m n : Int) ∣ n := Int.gcd_dvd_right ..
  have gp : 0 < Int.gcd m n := Nat.gcd_pos_of_pos_left _ (by omega)
  have gz : (Int.gcd m n : Int) ≠ 0 := by omega
  refine ⟨a, b, ea, eb, ?_, ?_, ?_⟩
  · have q : Int.gcd m n = Int.gcd ((Int.gcd m n : Int) * a) ((Int.gcd m n : Int) * b) := by rw [← ea, ← eb]
    rw [Int.gcd_mul_left] at q
    have q2 : Int.gcd m n * 1 = Int.gcd m n * Int.gcd a b := by
      have : ((Int.gcd m n : Int)).natAbs = Int.gcd m n := by omega
      rw [this] at q
      omega
    exact (Nat.eq_of_mul_eq_mul_left gp q2).symm
  · exact Int.fdiv_eq_of_eq_mul_right gz ea
  · exact Int.fdiv_eq_of_eq_mul_right gz eb
theorem plus_nf {x0 x1 y0 y1 : Int} (hx : NF x0 x1) (hy : NF y0 y1) :
    let c : Int := Int.gcd x1 y1; let u := x0 * y1.fdiv c + y0 * x1.fdiv c; let r : Int := Int.gcd u c
    NF (u.fdiv r) (x1.fdiv c * y1.fdiv r) ∧ u.fdiv r * (x1 * y1) = (x0 * y1 + y0 * x1) * (x1.fdiv c * y1.fdiv r) ∧ c ≠ 0 ∧ r ≠ 0 ∧ c ∣ x1 ∧ c ∣ y1 ∧ r ∣ u ∧ r ∣ y1 := by
  intro c u r
  obtain ⟨a, b, ea, eb, hab, da, db⟩ := split_gcd (m := x1) (n := y1) (by have := hx.1; omega)
  have cz : c ≠ 0 := fun z => by
    have : x1 = c * a := ea
    rw [z, Int.zero_mul] at this
    have := hx.1; omega
  have cp : 0 < c := by have : 0 ≤ c := Int.natCast_nonneg _; omega
  obtain ⟨c', u', ec, eu, hcu, dc, du⟩ := split_gcd (m := c) (n := u) cz
  have er : (Int.gcd c u : Int) = r := by show (Int.gcd c u : Int) = (Int.gcd u c : Int); rw [Int.gcd_comm]
  rw [er] at ec eu dc du
  have rz : r ≠ 0 := fun z => by rw [z, Int.zero_mul] at ec; exact cz ec
  have rp : 0 < r := by have : 0 ≤ r := Int.natCast_nonneg _; omega
  have da' : x1.fdiv c = a := da
  have db' : y1.fdiv c = b := db
  have ea' : x1 = c * a := ea
  have eb' : y1 = c * b := eb
  have uu : u = x0 * b + y0 * a := by show x0 * y1.fdiv c + y0 * x1.fdiv c = _; rw [da', db']
  have ey : y1.fdiv r = c' * b := Int.fdiv_eq_of_eq_mul_right rz (by rw [eb', ← Int.mul_assoc, ← ec])
  have pos : ∀ {m k : Int}, 0 < m → 0 < m * k → 0 < k := fun {m k} hm h => Classical.byContradiction fun q => by
    have y := Int.mul_nonneg (Int.le_of_lt hm) (show 0 ≤ -k by omega)
    rw [Int.mul_neg] at y
    omega
  have ap : 0 < a := pos cp (by rw [← ea']; exact hx.1)
  have bp : 0 < b := pos cp (by rw [← eb']; exact hy.1)
  have ccp : 0 < c' := pos rp (by rw [← ec]; exact cp)
  have du' : u.fdiv r = u' := du
  have side : ∀ {p q a b : Int}, Int.gcd a b = 1 → Int.gcd p (c * a) = 1 → u = p * b + q * a → Int.gcd u' a = 1 := fun {p q a b} hab hp e => gcd_one_of fun g h1 h2 => by
    have g1 : g ∣ u := by rw [eu]; exact Int.dvd_trans h1 (Int.dvd_mul_left ..)
    have g2 : g ∣ q * a := Int.dvd_trans h2 (Int.dvd_mul_left ..)
    have g3 : g ∣ b * p := by
      have : b * p = u - q * a := by rw [e, Int.mul_comm]; omega
      rw [this]
      exact Int.dvd_sub g1 g2
    have g4 : Int.gcd g b = 1 := gcd_one_of fun k k1 k2 => dvd_one_of hab (Int.dvd_trans k1 h2) k2
    exact dvd_one_of hp (dvd_of g3 g4) (Int.dvd_trans h2 (Int.dvd_mul_left ..))
  have sa : Int.gcd u' a = 1 := side hab (by rw [← ea']; exact hx.2) uu
  have sb : Int.gcd u' b = 1 := side (p := y0) (q := x0) (by rw [Int.gcd_comm]; exact hab) (by rw [← eb']; exact hy.2) (by rw [uu, Int.add_comm])
  have key : ∀ C R U A B D : Int, C = R * D → U * ((C * A) * (C * B)) = (C * (R * U)) * (A * (D * B)) := by
    intro C R U A B D e
    subst e
    ac_rfl
  have sum : x0 * y1 + y0 * x1 = c * (r * u') := by
    rw [← eu, uu, Int.mul_add, ea', eb']
    have e1 : x0 * (c * b) = c * (x0 * b) := by ac_rfl
    have e2 : y0 * (c * a) = c * (y0 * a) := by ac_rfl
    rw [e1, e2]
  rw [du', da', ey]
  refine ⟨⟨Int.mul_pos ap (Int.mul_pos ccp bp), gcd_mul sa (gcd_mul (by rw [Int.gcd_comm]; exact hcu) sb)⟩, ?_, cz, rz, ⟨a, ea'⟩, ⟨b, eb'⟩, ⟨u', eu⟩, ⟨c' * b, by rw [eb', ← Int.mul_assoc, ← ec]⟩⟩
  rw [sum, ea', eb']
  exact key c r u' a b c' ec
theorem nf_cop {n d a b : Int} (h : NF n d) (x : a ∣ n) (y : b ∣ d) : Int.gcd a b = 1 := gcd_one_of fun g h1 h2 => dvd_one_of h.2 (Int.dvd_trans h1 x) (Int.dvd_trans h2 y)
theorem times_nf {x0 x1 y0 y1 : Int} (hx : NF x0 x1) (hy : NF y0 y1) :
    let o : Int := Int.gcd x0 y1; let p : Int := Int.gcd y0 x1
    NF (x0.fdiv o * y0.fdiv p) (x1.fdiv p * y1.fdiv o) ∧ x0.fdiv o * y0.fdiv p * (x1 * y1) = x0 * y0 * (x1.fdiv p * y1.fdiv o) ∧ o ≠ 0 ∧ p ≠ 0 ∧ o ∣ x0 ∧ o ∣ y1 ∧ p ∣ y0 ∧ p ∣ x1 := by
  intro o p
  obtain ⟨b1, a1, e1, e2, h1, d1, d2⟩ := split_gcd (m := y1) (n := x0) (by have := hy.1; omega)
  obtain ⟨b2, a2, e3, e4, h2, d3, d4⟩ := split_gcd (m := x1) (n := y0) (by have := hx.1; omega)
  have eo : (Int.gcd y1 x0 : Int) = o := by show (Int.gcd y1 x0 : Int) = (Int.gcd x0 y1 : Int); rw [Int.gcd_comm]
  have ep : (Int.gcd x1 y0 : Int) = p := by show (Int.gcd x1 y0 : Int) = (Int.gcd y0 x1 : Int); rw [Int.gcd_comm]
  rw [eo] at e1 e2 d1 d2
  rw [ep] at e3 e4 d3 d4
  have oz : o ≠ 0 := fun z => by rw [z, Int.zero_mul] at e1; have := hy.1; omega
  have pz : p ≠ 0 := fun z => by rw [z, Int.zero_mul] at e3; have := hx.1; omega
  have op : 0 < o := by have : 0 ≤ o := Int.natCast_nonneg _; omega
  have pp : 0 < p := by have : 0 ≤ p := Int.natCast_nonneg _; omega
  have pos : ∀ {m k : Int}, 0 < m → 0 < m * k → 0 < k := fun {m k} hm h => Classical.byContradiction fun q => by
    have y := Int.mul_nonneg (Int.le_of_lt hm) (show 0 ≤ -k by omega)
    rw [Int.mul_neg] at y
    omega
  have bp1 : 0 < b1 := pos op (by rw [← e1]; exact hy.1)
  have bp2 : 0 < b2 := pos pp (by rw [← e3]; exact hx.1)
  have x0d : a1 ∣ x0 := ⟨o, by rw [Int.mul_comm]; exact e2⟩
  have x1d : b2 ∣ x1 := ⟨p, by rw [Int.mul_comm]; exact e3⟩
  have y0d : a2 ∣ y0 := ⟨p, by rw [Int.mul_comm]; exact e4⟩
  have y1d : b1 ∣ y1 := ⟨o, by rw [Int.mul_comm]; exact e1⟩
  have sw : ∀ {a b : Int}, Int.gcd a b = 1 → Int.gcd b a = 1 := fun {a b} h => by rw [Int.gcd_comm]; exact h
  rw [d2, d4, d3, d1]
  refine ⟨⟨Int.mul_pos bp2 bp1, sw (gcd_mul (sw (gcd_mul (nf_cop hx x0d x1d) (sw h1))) (sw (gcd_mul (sw h2) (nf_cop hy y0d y1d))))⟩, ?_, oz, pz, ⟨a1, e2⟩, ⟨b1, e1⟩, ⟨a2, e4⟩, ⟨b2, e3⟩⟩
  have key : ∀ O P A1 A2 B1 B2 : Int, A1 * A2 * (P * B2 * (O * B1)) = O * A1 * (P * A2) * (B2 * B1) := by
    intros
    ac_rfl
  have q := key o p a1 a2 b1 b2
  rw [← e1, ← e2, ← e3, ← e4] at q
  exact q
theorem neg_nf {n d : Int} (h : NF n d) : NF (-n) d := ⟨h.1, by rw [Int.neg_gcd]; exact h.2⟩
end TP

set_option maxHeartbeats 4000000
namespace TP
open PySem PySem.Spec PyProof.Rows L2

/-! ### the program's own reckoning with fractions -/
def b_plus_0 : Stm := .cons (.ret (.tup (.cons (.bin .div (.var 3) (.var 4)) (.cons (.bin .mul (.bin .div (.ix (.var 0) (.int 1)) (.var 2)) (.bin .div (.ix (.var 1) (.int 1)) (.var 4))) .nil)))) .nil
def b_plus_1 : Stm := .cons (.asg (.nm 4) (.blt .gcd (.cons (.var 3) (.cons (.var 2) .nil)))) b_plus_0
def b_plus_2 : Stm := .cons (.asg (.nm 3) (.bin .add (.bin .mul (.ix (.var 0) (.int 0)) (.bin .div (.ix (.var 1) (.int 1)) (.var 2))) (.bin .mul (.ix (.var 1) (.int 0)) (.bin .div (.ix (.var 0) (.int 1)) (.var 2))))) b_plus_1
def b_plus_3 : Stm := .cons (.asg (.nm 2) (.blt .gcd (.cons (.ix (.var 0) (.int 1)) (.cons (.ix (.var 1) (.int 1)) .nil)))) b_plus_2
def n_plus : List Str := ["x", "y", "common", "upper", "rest"]
abbrev b_plus : Stm := b_plus_3

def n_negative : List Str := ["x"]
abbrev b_negative : Stm := (.cons (.ret (.tup (.cons (.neg (.ix (.var 0) (.int 0))) (.cons (.ix (.var 0) (.int 1)) .nil)))) .nil)

def n_minus : List Str := ["x", "y"]
abbrev b_minus : Stm := (.cons (.ret (.call 0 (.cons (.var 0) (.cons (.call 1 (.cons (.var 1) .nil)) .nil)))) .nil)
def b_times_of_0 : Stm := .cons (.ret (.tup (.cons (.bin .mul (.bin .div (.ix (.var 0) (.int 0)) (.var 2)) (.bin .div (.ix (.var 1) (.int 0)) (.var 3))) (.cons (.bin .mul (.bin .div (.ix (.var 0) (.int 1)) (.var 3)) (.bin .div (.ix (.var 1) (.int 1)) (.var 2))) .nil)))) .nil
def b_times_of_1 : Stm := .cons (.par [2, 3] (.cons (.blt .gcd (.cons (.ix (.var 0) (.int 0)) (.cons (.ix (.var 1) (.int 1)) .nil))) (.cons (.blt .gcd (.cons (.ix (.var 1) (.int 0)) (.cons (.ix (.var 0) (.int 1)) .nil))) .nil))) b_times_of_0
def n_times_of : List Str := ["x", "y", "one", "other"]
abbrev b_times_of : Stm := b_times_of_1

def n_size_of : List Str := ["x"]
abbrev b_size_of : Stm := (.cons (.ret (.tup (.cons (.blt .abs (.cons (.ix (.var 0) (.int 0)) .nil)) (.cons (.ix (.var 0) (.int 1)) .nil)))) .nil)
def pr (n d : Int) : T := .tup [.int n, .int d]
theorem at_one {a b : T} : atT [a, b] 1 = some b := rfl
theorem at_nought {a b : T} : atT [a, b] 0 = some a := rfl
/-- numbers of at most k bits -/
def Bt (k : Nat) (i : Int) : Prop := i.natAbs < 2 ^ k
theorem Bt.log {k : Nat} {i : Int} (h : Bt k i) (hk : 0 < k) : i.natAbs.log2 < k := by
  by_cases z : i.natAbs = 0
  · rw [z]; simpa using hk
  · exact (Nat.log2_lt z).mpr h
theorem Bt.mul {k m : Nat} {i j : Int} (h : Bt k i) (h' : Bt m j) : Bt (k + m) (i * j) := by
  unfold Bt
  rw [Int.natAbs_mul, Nat.pow_add]
  exact Nat.mul_lt_mul'' h h'
theorem Bt.add {k : Nat} {i j : Int} (h : Bt k i) (h' : Bt k j) : Bt (k + 1) (i + j) := by
  unfold Bt at *
  rw [Nat.pow_succ]
  omega
theorem Bt.up {k m : Nat} {i : Int} (h : Bt k i) (l : k ≤ m) : Bt m i := Nat.lt_of_lt_of_le h (Nat.pow_le_pow_right (by omega) l)
theorem Bt.div {k : Nat} {i j : Int} (h : Bt k i) (d : j ∣ i) (z : j ≠ 0) : Bt k (i.fdiv j) := Nat.lt_of_le_of_lt (fdiv_abs d z) h
theorem Bt.dvd {k : Nat} {i j : Int} (h : Bt k i) (d : j ∣ i) (z : i ≠ 0) : Bt k j := Nat.lt_of_le_of_lt (Nat.le_of_dvd (by omega) (Int.natAbs_dvd_natAbs.mpr d)) h
theorem mul_bt {k m : Nat} {i j : Int} (h : Bt k i) (h' : Bt m j) (l : k + m < 1000000) (hk : 0 < k) (hm : 0 < m) : MulOk i j := .inr (by
  have h1 := h.log hk
  have h2 := h'.log hm
  show i.natAbs.log2 + j.natAbs.log2 < 1000000
  omega)
theorem div_bt {k : Nat} {j : Int} (h : Bt k j) (l : k ≤ 9000) (hk : 0 < k) (z : j ≠ 0) : DivOk j := ⟨z, by have := h.log hk; omega⟩
def spPlus : TSp := fun ts S R X => ∃ x0 x1 y0 y1, ts = [pr x0 x1, pr y0 y1] ∧ NF x0 x1 ∧ NF y0 y1 ∧ Bt 3000 x0 ∧ Bt 3000 x1 ∧ Bt 3000 y0 ∧ Bt 3000 y1 ∧ R (frT (x0 * y1 + y0 * x1) (x1 * y1)) S
theorem w_plus (G : Gx) (N : List Str) (hN : N.length = 5) (ts : List T) (S : Sto) (R : RP) (X : XP) (h : spPlus ts S R X) : ts.length = 2 ∧ wS b_plus G (startE N ts) S { nx := fun _ S' => R .non S', rt := R, xx := fun _ => X } := by
  obtain ⟨x0, x1, y0, y1, rfl, hx, hy, b1, b2, b3, b4, k⟩ := h
  refine ⟨rfl, ?_⟩
  unfold startE
  rw [hN]
  show wS b_plus G [some (.tup [.int x0, .int x1]), some (.tup [.int y0, .int y1]), none, none, none] S _
  obtain ⟨nf, cr, cz, rz, d1, d2, d3, d4⟩ := plus_nf hx hy
  simp (config := { maxSteps := 4000000 }) only [b_plus, b_plus_3, b_plus_2, b_plus_1, b_plus_0, wS, sem, Sm.val, Sm.tst, Sm.arg, Sm.itr, boolOf, truthOf, gT, gTs, zipK, seqOf, lstOf, Co.sem, oInt, Bo.sem, oAdd, oSub, oMul, oDiv, oMod, Bf.sem, oLen, oAbs, oInt1, oGcd, oNeg, oIx, Mt.sem, List.getElem?_cons_zero, List.getElem?_cons_succ, List.set_cons_zero, List.set_cons_succ, setAll, frz_lst, frz_dct, tru_bl, tru_int, oEq_int, oEq_str, Bool.false_bne, Bool.true_bne, if_true, if_false, Bool.false_eq_true, reduceIte, Bool.not_true, Bool.not_false, List.cons.injEq, true_and, and_true, List.length_cons, List.length_nil, Option.some.injEq, exists_eq_left', at_one, at_nought]
  simp only [← Int.gcd_eq_natAbs_gcd_natAbs] at *
  have c1 : Bt 3000 ((Int.gcd x1 y1 : Nat) : Int) := b2.dvd d1 (by have := hx.1; omega)
  have e1 : Bt 3000 (y1.fdiv (Int.gcd x1 y1 : Nat)) := b4.div d2 cz
  have e2 : Bt 3000 (x1.fdiv (Int.gcd x1 y1 : Nat)) := b2.div d1 cz
  have eu : Bt 6001 (x0 * y1.fdiv (Int.gcd x1 y1 : Nat) + y0 * x1.fdiv (Int.gcd x1 y1 : Nat)) := (b1.mul e1).add (b3.mul e2)
  have yz : y1 ≠ 0 := by have := hy.1; omega
  have r1 := b4.dvd d4 yz
  have r2 := b4.div d4 rz
  have xz : x1 ≠ 0 := by have := hx.1; omega
  rw [frT_of (Int.mul_ne_zero xz yz) nf cr] at k
  have dc := div_bt c1 (by omega) (by omega) cz
  have dr := div_bt r1 (by omega) (by omega) rz
  exact ⟨dc, mul_bt b1 e1 (by omega) (by omega) (by omega), dc, mul_bt b3 e2 (by omega) (by omega) (by omega), dr, dc, dr, mul_bt e2 r2 (by omega) (by omega) (by omega), by decide, k⟩
def spTimes : TSp := fun ts S R X => ∃ x0 x1 y0 y1, ts = [pr x0 x1, pr y0 y1] ∧ NF x0 x1 ∧ NF y0 y1 ∧ Bt 3000 x0 ∧ Bt 3000 x1 ∧ Bt 3000 y0 ∧ Bt 3000 y1 ∧ R (frT (x0 * y0) (x1 * y1)) S
theorem w_times (G : Gx) (N : List Str) (hN : N.length = 4) (ts : List T) (S : Sto) (R : RP) (X : XP) (h : spTimes ts S R X) : ts.length = 2 ∧ wS b_times_of G (startE N ts) S { nx := fun _ S' => R .non S', rt := R, xx := fun _ => X } := by
  obtain ⟨x0, x1, y0, y1, rfl, hx, hy, b1, b2, b3, b4, k⟩ := h
  refine ⟨rfl, ?_⟩
  unfold startE
  rw [hN]
  show wS b_times_of G [some (.tup [.int x0, .int x1]), some (.tup [.int y0, .int y1]), none, none] S _
  obtain ⟨nf, cr, oz, pz, d1, d2, d3, d4⟩ := times_nf hx hy
  simp (config := { maxSteps := 4000000 }) only [b_times_of, b_times_of_1, b_times_of_0, wS, sem, Sm.val, Sm.tst, Sm.arg, Sm.itr, boolOf, truthOf, gT, gTs, zipK, seqOf, lstOf, Co.sem, oInt, Bo.sem, oAdd, oSub, oMul, oDiv, oMod, Bf.sem, oLen, oAbs, oInt1, oGcd, oNeg, oIx, Mt.sem, List.getElem?_cons_zero, List.getElem?_cons_succ, List.set_cons_zero, List.set_cons_succ, setAll, frz_lst, frz_dct, tru_bl, tru_int, oEq_int, oEq_str, Bool.false_bne, Bool.true_bne, if_true, if_false, Bool.false_eq_true, reduceIte, Bool.not_true, Bool.not_false, List.cons.injEq, true_and, and_true, List.length_cons, List.length_nil, Option.some.injEq, exists_eq_left', at_one, at_nought]
  simp only [← Int.gcd_eq_natAbs_gcd_natAbs] at *
  have yz : y1 ≠ 0 := by have := hy.1; omega
  have xz : x1 ≠ 0 := by have := hx.1; omega
  have o1 := b4.dvd d2 yz
  have p1 := b2.dvd d4 xz
  have dO := div_bt o1 (by omega) (by omega) oz
  have dP := div_bt p1 (by omega) (by omega) pz
  rw [frT_of (Int.mul_ne_zero xz yz) nf cr] at k
  exact ⟨dO, dP, mul_bt (b1.div d1 oz) (b3.div d3 pz) (by omega) (by omega) (by omega), dP, dO, mul_bt (b2.div d4 pz) (b4.div d2 oz) (by omega) (by omega) (by omega), by decide, k⟩
def spNeg : TSp := fun ts S R X => ∃ n d, ts = [pr n d] ∧ R (pr (-n) d) S
theorem w_neg (G : Gx) (N : List Str) (hN : N.length = 1) (ts : List T) (S : Sto) (R : RP) (X : XP) (h : spNeg ts S R X) : ts.length = 1 ∧ wS b_negative G (startE N ts) S { nx := fun _ S' => R .non S', rt := R, xx := fun _ => X } := by
  obtain ⟨n, d, rfl, k⟩ := h
  refine ⟨rfl, ?_⟩
  unfold startE
  rw [hN]
  show wS b_negative G [some (.tup [.int n, .int d])] S _
  simp only [b_negative, wS, sem, Sm.val, Sm.tst, Sm.arg, Sm.itr, boolOf, truthOf, gT, gTs, zipK, seqOf, lstOf, Co.sem, oInt, Bo.sem, oAdd, oSub, oMul, oDiv, oMod, Bf.sem, oLen, oAbs, oInt1, oGcd, oNeg, oIx, Mt.sem, List.getElem?_cons_zero, List.getElem?_cons_succ, List.set_cons_zero, List.set_cons_succ, setAll, frz_lst, frz_dct, tru_bl, tru_int, oEq_int, oEq_str, Bool.false_bne, Bool.true_bne, if_true, if_false, Bool.false_eq_true, reduceIte, Bool.not_true, Bool.not_false, List.cons.injEq, true_and, and_true, List.length_cons, List.length_nil, Option.some.injEq, exists_eq_left', at_one, at_nought]
  exact ⟨by decide, k⟩
def spMinus : TSp := fun ts S R X => ∃ x0 x1 y0 y1, ts = [pr x0 x1, pr y0 y1] ∧ NF x0 x1 ∧ NF y0 y1 ∧ Bt 3000 x0 ∧ Bt 3000 x1 ∧ Bt 3000 y0 ∧ Bt 3000 y1 ∧ R (frT (x0 * y1 - y0 * x1) (x1 * y1)) S
theorem w_minus (G : Gx) (N : List Str) (hN : N.length = 2) {a b : Str} (h0 : G.fns[0]? = some (a, spPlus)) (h1 : G.fns[1]? = some (b, spNeg)) (ts : List T) (S : Sto) (R : RP) (X : XP) (h : spMinus ts S R X) : ts.length = 2 ∧ wS b_minus G (startE N ts) S { nx := fun _ S' => R .non S', rt := R, xx := fun _ => X } := by
  obtain ⟨x0, x1, y0, y1, rfl, hx, hy, b1, b2, b3, b4, k⟩ := h
  refine ⟨rfl, ?_⟩
  unfold startE
  rw [hN]
  show wS b_minus G [some (pr x0 x1), some (pr y0 y1)] S _
  simp only [b_minus, wS, sem, Sm.val, Sm.tst, Sm.arg, Sm.itr, boolOf, truthOf, gT, gTs, zipK, seqOf, lstOf, Co.sem, oInt, Bo.sem, oAdd, oSub, oMul, oDiv, oMod, Bf.sem, oLen, oAbs, oInt1, oGcd, oNeg, oIx, Mt.sem, List.getElem?_cons_zero, List.getElem?_cons_succ, List.set_cons_zero, List.set_cons_succ, setAll, frz_lst, frz_dct, tru_bl, tru_int, oEq_int, oEq_str, Bool.false_bne, Bool.true_bne, if_true, if_false, Bool.false_eq_true, reduceIte, Bool.not_true, Bool.not_false, List.cons.injEq, true_and, and_true, List.length_cons, List.length_nil, Option.some.injEq, exists_eq_left', h0, h1, spPlus, spNeg]
  refine ⟨y0, y1, rfl, x0, x1, -y0, y1, ⟨rfl, rfl⟩, hx, neg_nf hy, b1, b2, ?_, b4, ?_⟩
  · show (-y0).natAbs < _
    rw [Int.natAbs_neg]; exact b3
  · have e : x0 * y1 + -y0 * x1 = x0 * y1 - y0 * x1 := by rw [Int.neg_mul]; omega
    rw [e]; exact k
def spSize : TSp := fun ts S R X => ∃ n d, ts = [pr n d] ∧ R (pr (n.natAbs : Int) d) S
theorem w_size (G : Gx) (N : List Str) (hN : N.length = 1) (ts : List T) (S : Sto) (R : RP) (X : XP) (h : spSize ts S R X) : ts.length = 1 ∧ wS b_size_of G (startE N ts) S { nx := fun _ S' => R .non S', rt := R, xx := fun _ => X } := by
  obtain ⟨n, d, rfl, k⟩ := h
  refine ⟨rfl, ?_⟩
  unfold startE
  rw [hN]
  show wS b_size_of G [some (.tup [.int n, .int d])] S _
  simp only [b_size_of, wS, sem, Sm.val, Sm.tst, Sm.arg, Sm.itr, boolOf, truthOf, gT, gTs, zipK, seqOf, lstOf, Co.sem, oInt, Bo.sem, oAdd, oSub, oMul, oDiv, oMod, Bf.sem, oLen, oAbs, oInt1, oGcd, oNeg, oIx, Mt.sem, List.getElem?_cons_zero, List.getElem?_cons_succ, List.set_cons_zero, List.set_cons_succ, setAll, frz_lst, frz_dct, tru_bl, tru_int, oEq_int, oEq_str, Bool.false_bne, Bool.true_bne, if_true, if_false, Bool.false_eq_true, reduceIte, Bool.not_true, Bool.not_false, List.cons.injEq, true_and, and_true, List.length_cons, List.length_nil, Option.some.injEq, exists_eq_left', at_one, at_nought]
  have e : (if n < 0 then -n else n) = (n.natAbs : Int) := by split <;> omega
  rw [e]
  exact ⟨by decide, k⟩
end TP

set_option maxHeartbeats 1000000
namespace TP
open PySem PySem.Spec PyProof.Rows L2

/-! ### fractions are rational numbers -/
def rT (q : Rat) : T := pr q.num q.den
theorem nf_rat (q : Rat) : NF q.num q.den := ⟨by have := q.den_pos; omega, q.reduced⟩
theorem frT_rat {n d : Int} (h : d ≠ 0) : frT n d = rT (Rat.divInt n d) := by
  refine frT_of h (nf_rat _) ?_
  have e : Rat.divInt (Rat.divInt n d).num (Rat.divInt n d).den = Rat.divInt n d := Rat.num_divInt_den _
  have z : ((Rat.divInt n d).den : Int) ≠ 0 := by have := (Rat.divInt n d).den_pos; omega
  exact (Rat.divInt_eq_divInt_iff z h).mp e
theorem rT_nf {n d : Int} (h : NF n d) : pr n d = rT (Rat.divInt n d) := by
  have z : d ≠ 0 := by have := h.1; omega
  rw [← frT_rat z]
  exact (frT_of z h rfl).symm
theorem sum_rat (x y : Rat) : frT (x.num * y.den + y.num * x.den) (x.den * y.den) = rT (x + y) := by
  have zx : (x.den : Int) ≠ 0 := by have := x.den_pos; omega
  have zy : (y.den : Int) ≠ 0 := by have := y.den_pos; omega
  rw [frT_rat (Int.mul_ne_zero zx zy), ← Rat.divInt_add_divInt _ _ zx zy, Rat.num_divInt_den, Rat.num_divInt_den]
theorem times_rat (x y : Rat) : frT (x.num * y.num) (x.den * y.den) = rT (x * y) := by
  have zx : (x.den : Int) ≠ 0 := by have := x.den_pos; omega
  have zy : (y.den : Int) ≠ 0 := by have := y.den_pos; omega
  rw [frT_rat (Int.mul_ne_zero zx zy), ← Rat.divInt_mul_divInt, Rat.num_divInt_den, Rat.num_divInt_den]
theorem less_rat (x y : Rat) : frT (x.num * y.den - y.num * x.den) (x.den * y.den) = rT (x - y) := by
  have e := sum_rat x (-y)
  rw [Rat.neg_num, Rat.neg_den, Int.neg_mul] at e
  rw [Rat.sub_eq_add_neg, ← e]
  congr 1
end TP

set_option maxHeartbeats 4000000
namespace TP
open PySem PySem.Spec PyProof.Rows L2

/-! ### the laws' own reckoning, over rational numbers -/

def n_l_sum : List Str := ["_law_x", "_law_y"]
abbrev b_l_sum : Stm := (.cons (.ret (.call 0 (.cons (.bin .add (.bin .mul (.ix (.var 0) (.int 0)) (.ix (.var 1) (.int 1))) (.bin .mul (.ix (.var 1) (.int 0)) (.ix (.var 0) (.int 1)))) (.cons (.bin .mul (.ix (.var 0) (.int 1)) (.ix (.var 1) (.int 1))) .nil)))) .nil)

def n_l_less : List Str := ["_law_x", "_law_y"]
abbrev b_l_less : Stm := (.cons (.ret (.call 0 (.cons (.bin .sub (.bin .mul (.ix (.var 0) (.int 0)) (.ix (.var 1) (.int 1))) (.bin .mul (.ix (.var 1) (.int 0)) (.ix (.var 0) (.int 1)))) (.cons (.bin .mul (.ix (.var 0) (.int 1)) (.ix (.var 1) (.int 1))) .nil)))) .nil)

def n_l_times : List Str := ["_law_x", "_law_y"]
abbrev b_l_times : Stm := (.cons (.ret (.call 0 (.cons (.bin .mul (.ix (.var 0) (.int 0)) (.ix (.var 1) (.int 0))) (.cons (.bin .mul (.ix (.var 0) (.int 1)) (.ix (.var 1) (.int 1))) .nil)))) .nil)

def n_l_as_size : List Str := ["_law_x"]
abbrev b_l_as_size : Stm := (.cons (.ret (.tup (.cons (.blt .abs (.cons (.ix (.var 0) (.int 0)) .nil)) (.cons (.ix (.var 0) (.int 1)) .nil)))) .nil)
theorem un_bt {n d : Int} (h : d ≠ 0) (b : Bt 8000 d) : DivOk (un n d) := by
  have h1 := gcd_le (n := n) h
  have h2 := gcd_pos (n := n) h
  refine ⟨un_ne h, ?_⟩
  rw [un_abs]
  have : (Int.gcd n d).log2 < 8000 := (Nat.log2_lt (by omega)).mpr (Nat.lt_of_le_of_lt h1 b)
  omega
/-- the laws' own fraction, of any size -/
def spLF : TSp := fun ts S R X => ∃ n d : Int, ts = [.int n, .int d] ∧ d ≠ 0 ∧ Bt 8000 d ∧ R (rT (Rat.divInt n d)) S
theorem w_lf (G : Gx) (N : List Str) (hN : N.length = 3) {x : Str} (hf : G.fns[0]? = some (x, spCommon)) (ts : List T) (S : Sto) (R : RP) (X : XP) (h : spLF ts S R X) : ts.length = 2 ∧ wS b_l_fraction G (startE N ts) S { nx := fun _ S' => R .non S', rt := R, xx := fun _ => X } := by
  obtain ⟨n, d, rfl, d0, nd, k⟩ := h
  refine ⟨rfl, ?_⟩
  unfold startE
  rw [hN]
  show wS b_l_fraction G [some (.int n), some (.int d), none] S _
  have u := un_bt (n := n) d0 nd
  rw [← frT_rat d0] at k
  simp only [b_l_fraction, b_l_fraction_1, b_l_fraction_0, wS, sem, Sm.val, Sm.tst, Sm.arg, Sm.itr, boolOf, truthOf, gT, gTs, zipK, seqOf, lstOf, Co.sem, oInt, Bo.sem, oAdd, oSub, oMul, oDiv, oMod, Bf.sem, oLen, oAbs, oInt1, oGcd, oNeg, oIx, Mt.sem, List.getElem?_cons_zero, List.getElem?_cons_succ, List.set_cons_zero, List.set_cons_succ, setAll, frz_lst, frz_dct, tru_bl, tru_int, oEq_int, oEq_str, Bool.false_bne, Bool.true_bne, if_true, if_false, Bool.false_eq_true, reduceIte, Bool.not_true, Bool.not_false, List.cons.injEq, true_and, and_true, List.length_cons, List.length_nil, Option.some.injEq, exists_eq_left', hf, spCommon]
  refine ⟨n, d, ⟨rfl, rfl⟩, ?_⟩
  by_cases hd : 0 < d
  · have e : un n d = (Int.gcd n d : Int) * 1 := by unfold un; rw [if_pos hd]
    simp only [hd, decide_true, wS, sem, Sm.val, Sm.tst, Sm.arg, Sm.itr, boolOf, truthOf, gT, gTs, zipK, seqOf, lstOf, Co.sem, oInt, Bo.sem, oAdd, oSub, oMul, oDiv, oMod, Bf.sem, oLen, oAbs, oInt1, oGcd, oNeg, oIx, Mt.sem, List.getElem?_cons_zero, List.getElem?_cons_succ, List.set_cons_zero, List.set_cons_succ, setAll, frz_lst, frz_dct, tru_bl, tru_int, oEq_int, oEq_str, Bool.false_bne, Bool.true_bne, if_true, if_false, Bool.false_eq_true, reduceIte, Bool.not_true, Bool.not_false, List.cons.injEq, true_and, and_true, List.length_cons, List.length_nil, Option.some.injEq, exists_eq_left']
    rw [← e]
    exact ⟨.inl (.inr (by omega)), u, u, by decide, k⟩
  · have e : un n d = (Int.gcd n d : Int) * (0 - 1) := by unfold un; rw [if_neg hd]; rfl
    simp only [hd, decide_false, wS, sem, Sm.val, Sm.tst, Sm.arg, Sm.itr, boolOf, truthOf, gT, gTs, zipK, seqOf, lstOf, Co.sem, oInt, Bo.sem, oAdd, oSub, oMul, oDiv, oMod, Bf.sem, oLen, oAbs, oInt1, oGcd, oNeg, oIx, Mt.sem, List.getElem?_cons_zero, List.getElem?_cons_succ, List.set_cons_zero, List.set_cons_succ, setAll, frz_lst, frz_dct, tru_bl, tru_int, oEq_int, oEq_str, Bool.false_bne, Bool.true_bne, if_true, if_false, Bool.false_eq_true, reduceIte, Bool.not_true, Bool.not_false, List.cons.injEq, true_and, and_true, List.length_cons, List.length_nil, Option.some.injEq, exists_eq_left']
    rw [← e]
    exact ⟨.inl (.inr (by omega)), u, u, by decide, k⟩
/-- numbers of at most k bits above and below -/
def Sz (k : Nat) (q : Rat) : Prop := Bt k q.num ∧ Bt k q.den
theorem den_ne (q : Rat) : (q.den : Int) ≠ 0 := by have := q.den_pos; omega
def spBin (f : Rat → Rat → Rat) : TSp := fun ts S R X => ∃ x y : Rat, ts = [rT x, rT y] ∧ Sz 3000 x ∧ Sz 3000 y ∧ R (rT (f x y)) S
theorem div_add (x y : Rat) : Rat.divInt (x.num * y.den + y.num * x.den) (x.den * y.den) = x + y := by
  rw [← Rat.divInt_add_divInt _ _ (den_ne x) (den_ne y), Rat.num_divInt_den, Rat.num_divInt_den]
theorem div_mul (x y : Rat) : Rat.divInt (x.num * y.num) (x.den * y.den) = x * y := by
  rw [← Rat.divInt_mul_divInt, Rat.num_divInt_den, Rat.num_divInt_den]
theorem div_sub (x y : Rat) : Rat.divInt (x.num * y.den - y.num * x.den) (x.den * y.den) = x - y := by
  have e := div_add x (-y)
  rw [Rat.neg_num, Rat.neg_den, Int.neg_mul] at e
  rw [Rat.sub_eq_add_neg, ← e]
  congr 1
theorem w_lsum (G : Gx) (N : List Str) (hN : N.length = 2) {a : Str} (h0 : G.fns[0]? = some (a, spLF)) (ts : List T) (S : Sto) (R : RP) (X : XP) (h : spBin (fun x y => x + y) ts S R X) : ts.length = 2 ∧ wS b_l_sum G (startE N ts) S { nx := fun _ S' => R .non S', rt := R, xx := fun _ => X } := by
  obtain ⟨x, y, rfl, sx, sy, k⟩ := h
  refine ⟨rfl, ?_⟩
  unfold startE
  rw [hN]
  show wS b_l_sum G [some (.tup [.int x.num, .int x.den]), some (.tup [.int y.num, .int y.den])] S _
  simp (config := { maxSteps := 4000000 }) only [b_l_sum, wS, sem, Sm.val, Sm.tst, Sm.arg, Sm.itr, boolOf, truthOf, gT, gTs, zipK, seqOf, lstOf, Co.sem, oInt, Bo.sem, oAdd, oSub, oMul, oDiv, oMod, Bf.sem, oLen, oAbs, oInt1, oGcd, oNeg, oIx, Mt.sem, List.getElem?_cons_zero, List.getElem?_cons_succ, List.set_cons_zero, List.set_cons_succ, setAll, frz_lst, frz_dct, tru_bl, tru_int, oEq_int, oEq_str, Bool.false_bne, Bool.true_bne, if_true, if_false, Bool.false_eq_true, reduceIte, Bool.not_true, Bool.not_false, List.cons.injEq, true_and, and_true, List.length_cons, List.length_nil, Option.some.injEq, exists_eq_left', at_one, at_nought, h0, spLF]
  have m : ∀ {i j : Int}, Bt 3000 i → Bt 3000 j → MulOk i j := fun p q => mul_bt p q (by omega) (by omega) (by omega)
  refine ⟨m sx.1 sy.2, m sy.1 sx.2, m sx.2 sy.2, _, _, ⟨rfl, rfl⟩, Int.mul_ne_zero (den_ne x) (den_ne y), (sx.2.mul sy.2).up (by omega), ?_⟩
  rw [div_add]
  exact k
theorem w_lless (G : Gx) (N : List Str) (hN : N.length = 2) {a : Str} (h0 : G.fns[0]? = some (a, spLF)) (ts : List T) (S : Sto) (R : RP) (X : XP) (h : spBin (fun x y => x - y) ts S R X) : ts.length = 2 ∧ wS b_l_less G (startE N ts) S { nx := fun _ S' => R .non S', rt := R, xx := fun _ => X } := by
  obtain ⟨x, y, rfl, sx, sy, k⟩ := h
  refine ⟨rfl, ?_⟩
  unfold startE
  rw [hN]
  show wS b_l_less G [some (.tup [.int x.num, .int x.den]), some (.tup [.int y.num, .int y.den])] S _
  simp (config := { maxSteps := 4000000 }) only [b_l_less, wS, sem, Sm.val, Sm.tst, Sm.arg, Sm.itr, boolOf, truthOf, gT, gTs, zipK, seqOf, lstOf, Co.sem, oInt, Bo.sem, oAdd, oSub, oMul, oDiv, oMod, Bf.sem, oLen, oAbs, oInt1, oGcd, oNeg, oIx, Mt.sem, List.getElem?_cons_zero, List.getElem?_cons_succ, List.set_cons_zero, List.set_cons_succ, setAll, frz_lst, frz_dct, tru_bl, tru_int, oEq_int, oEq_str, Bool.false_bne, Bool.true_bne, if_true, if_false, Bool.false_eq_true, reduceIte, Bool.not_true, Bool.not_false, List.cons.injEq, true_and, and_true, List.length_cons, List.length_nil, Option.some.injEq, exists_eq_left', at_one, at_nought, h0, spLF]
  have m : ∀ {i j : Int}, Bt 3000 i → Bt 3000 j → MulOk i j := fun p q => mul_bt p q (by omega) (by omega) (by omega)
  refine ⟨m sx.1 sy.2, m sy.1 sx.2, m sx.2 sy.2, _, _, ⟨rfl, rfl⟩, Int.mul_ne_zero (den_ne x) (den_ne y), (sx.2.mul sy.2).up (by omega), ?_⟩
  rw [div_sub]
  exact k
theorem w_ltimes (G : Gx) (N : List Str) (hN : N.length = 2) {a : Str} (h0 : G.fns[0]? = some (a, spLF)) (ts : List T) (S : Sto) (R : RP) (X : XP) (h : spBin (fun x y => x * y) ts S R X) : ts.length = 2 ∧ wS b_l_times G (startE N ts) S { nx := fun _ S' => R .non S', rt := R, xx := fun _ => X } := by
  obtain ⟨x, y, rfl, sx, sy, k⟩ := h
  refine ⟨rfl, ?_⟩
  unfold startE
  rw [hN]
  show wS b_l_times G [some (.tup [.int x.num, .int x.den]), some (.tup [.int y.num, .int y.den])] S _
  simp (config := { maxSteps := 4000000 }) only [b_l_times, wS, sem, Sm.val, Sm.tst, Sm.arg, Sm.itr, boolOf, truthOf, gT, gTs, zipK, seqOf, lstOf, Co.sem, oInt, Bo.sem, oAdd, oSub, oMul, oDiv, oMod, Bf.sem, oLen, oAbs, oInt1, oGcd, oNeg, oIx, Mt.sem, List.getElem?_cons_zero, List.getElem?_cons_succ, List.set_cons_zero, List.set_cons_succ, setAll, frz_lst, frz_dct, tru_bl, tru_int, oEq_int, oEq_str, Bool.false_bne, Bool.true_bne, if_true, if_false, Bool.false_eq_true, reduceIte, Bool.not_true, Bool.not_false, List.cons.injEq, true_and, and_true, List.length_cons, List.length_nil, Option.some.injEq, exists_eq_left', at_one, at_nought, h0, spLF]
  have m : ∀ {i j : Int}, Bt 3000 i → Bt 3000 j → MulOk i j := fun p q => mul_bt p q (by omega) (by omega) (by omega)
  refine ⟨m sx.1 sy.1, m sx.2 sy.2, _, _, ⟨rfl, rfl⟩, Int.mul_ne_zero (den_ne x) (den_ne y), (sx.2.mul sy.2).up (by omega), ?_⟩
  rw [div_mul]
  exact k
/-- the program's own, over rational numbers -/
theorem plus_R {ts : List T} {S : Sto} {R : RP} {X : XP} (h : spBin (fun x y => x + y) ts S R X) : spPlus ts S R X := by
  obtain ⟨x, y, rfl, sx, sy, k⟩ := h
  exact ⟨_, _, _, _, rfl, nf_rat x, nf_rat y, sx.1, sx.2, sy.1, sy.2, by rw [sum_rat]; exact k⟩
theorem minus_R {ts : List T} {S : Sto} {R : RP} {X : XP} (h : spBin (fun x y => x - y) ts S R X) : spMinus ts S R X := by
  obtain ⟨x, y, rfl, sx, sy, k⟩ := h
  exact ⟨_, _, _, _, rfl, nf_rat x, nf_rat y, sx.1, sx.2, sy.1, sy.2, by rw [less_rat]; exact k⟩
theorem times_R {ts : List T} {S : Sto} {R : RP} {X : XP} (h : spBin (fun x y => x * y) ts S R X) : spTimes ts S R X := by
  obtain ⟨x, y, rfl, sx, sy, k⟩ := h
  exact ⟨_, _, _, _, rfl, nf_rat x, nf_rat y, sx.1, sx.2, sy.1, sy.2, by rw [times_rat]; exact k⟩
/-- how great sums and products are -/
theorem Sz.up {k m : Nat} {q : Rat} (h : Sz k q) (l : k ≤ m) : Sz m q := ⟨h.1.up l, h.2.up l⟩
theorem sz_div {k m : Nat} {n d : Int} (h : d ≠ 0) (a : Bt k n) (b : Bt m d) : Sz (max k m) (Rat.divInt n d) := by
  have e := frT_rat (n := n) h
  have e1 : n.fdiv (un n d) = (Rat.divInt n d).num ∧ d.fdiv (un n d) = ((Rat.divInt n d).den : Int) := by
    unfold frT rT pr at e
    simp only [T.tup.injEq, List.cons.injEq, T.int.injEq, and_true] at e
    exact e
  refine ⟨?_, ?_⟩
  · rw [← e1.1]; exact (a.div un_dvd.1 (un_ne h)).up (Nat.le_max_left _ _)
  · rw [← e1.2]; exact (b.div un_dvd.2 (un_ne h)).up (Nat.le_max_right _ _)
theorem sz_add {k m : Nat} {x y : Rat} (a : Sz k x) (b : Sz m y) : Sz (k + m + 1) (x + y) := by
  rw [← div_add]
  refine (sz_div (Int.mul_ne_zero (den_ne x) (den_ne y)) ((a.1.mul b.2).add ((b.1.mul a.2).up (by omega))) (a.2.mul b.2)).up (by omega)
theorem sz_mul {k m : Nat} {x y : Rat} (a : Sz k x) (b : Sz m y) : Sz (k + m) (x * y) := by
  rw [← div_mul]
  exact (sz_div (Int.mul_ne_zero (den_ne x) (den_ne y)) (a.1.mul b.1) (a.2.mul b.2)).up (by omega)
theorem sz_neg {k : Nat} {x : Rat} (a : Sz k x) : Sz k (-x) := ⟨by show (-x.num).natAbs < _; rw [Int.natAbs_neg]; exact a.1, a.2⟩
theorem sh_rat {k : Nat} {q : Rat} (a : Sz k q) (h : k ≤ 1000) : Sh 1 3849 (rT q) := sh_two (sh_int (a.1.up h)) (sh_int (a.2.up h))
end TP

set_option maxHeartbeats 4000000
namespace TP
open PySem PySem.Spec PyProof.Rows L2

/-! ### rows -/

def n_added : List Str := ["one", "other", "x", "y"]
abbrev b_added : Stm := (.cons (.ret (.blt .tuple (.cons (.frz (.lc [("x", 2), ("y", 3)] (.tup (.cons (.nm 2) (.cons (.nm 3) .nil))) (.iZ (.var 0) (.var 1)) (.call 0 (.cons (.var 2) (.cons (.var 3) .nil))))) .nil))) .nil)

def n_taken : List Str := ["one", "other", "x", "y"]
abbrev b_taken : Stm := (.cons (.ret (.blt .tuple (.cons (.frz (.lc [("x", 2), ("y", 3)] (.tup (.cons (.nm 2) (.cons (.nm 3) .nil))) (.iZ (.var 0) (.var 1)) (.call 0 (.cons (.var 2) (.cons (.var 3) .nil))))) .nil))) .nil)

def n_scaled : List Str := ["row", "x", "y"]
abbrev b_scaled : Stm := (.cons (.ret (.blt .tuple (.cons (.frz (.lc [("y", 2)] (.nm 2) (.iA (.var 0)) (.call 0 (.cons (.var 2) (.cons (.var 1) .nil))))) .nil))) .nil)

def n_back : List Str := ["row", "x"]
abbrev b_back : Stm := (.cons (.ret (.blt .tuple (.cons (.frz (.lc [("x", 1)] (.nm 1) (.iA (.var 0)) (.call 0 (.cons (.var 1) .nil)))) .nil))) .nil)

def n_l_row_sum : List Str := ["_law_one", "_law_other", "_law_x", "_law_y"]
abbrev b_l_row_sum : Stm := (.cons (.ret (.blt .tuple (.cons (.frz (.lc [("_law_x", 2), ("_law_y", 3)] (.tup (.cons (.nm 2) (.cons (.nm 3) .nil))) (.iZ (.var 0) (.var 1)) (.call 0 (.cons (.var 2) (.cons (.var 3) .nil))))) .nil))) .nil)

def n_l_row_less : List Str := ["_law_one", "_law_other", "_law_x", "_law_y"]
abbrev b_l_row_less : Stm := (.cons (.ret (.blt .tuple (.cons (.frz (.lc [("_law_x", 2), ("_law_y", 3)] (.tup (.cons (.nm 2) (.cons (.nm 3) .nil))) (.iZ (.var 0) (.var 1)) (.call 0 (.cons (.var 2) (.cons (.var 3) .nil))))) .nil))) .nil)

def n_l_row_times : List Str := ["_law_one", "_law_x", "_law_y"]
abbrev b_l_row_times : Stm := (.cons (.ret (.blt .tuple (.cons (.frz (.lc [("_law_y", 2)] (.nm 2) (.iA (.var 0)) (.call 0 (.cons (.var 2) (.cons (.var 1) .nil))))) .nil))) .nil)
theorem wLc_of {α : Type} {own : List Nat} {g : Tg} {el : WE1} {gd : Sto → Prop} {env : Env} {S : Sto} {R : List T → Sto → Prop} (tof res : α → T) (hg : gd S) : ∀ {vs : List α} {acc : List T}, acc.length + vs.length ≤ sizeLine →
    (∀ v ∈ vs, ∀ C : RP, C (res v) S → gT g (tof v) (wipeE env own) S fun env' => el env' S C fun _ _ => False) → R (acc ++ vs.map res) S → wLc own g (fun _ S R _ => R true S) el gd env (vs.map tof) acc S R := by
  intro vs
  induction vs with
  | nil => intro acc _ _ k; exact ⟨hg, by simpa using k⟩
  | cons v vs ih =>
    intro acc hl h k
    refine ⟨hg, by simp at hl; omega, ?_⟩
    simp only [if_true]
    exact h v (by simp) _ (ih (by simp at hl ⊢; omega) (fun u hu => h u (by simp [hu])) (by simpa using k))
def rowT (qs : List Rat) : T := .tup (qs.map rT)
theorem zip_rows : ∀ (xs ys : List Rat), ((xs.map rT).zip (ys.map rT)).map (fun p => T.tup [p.1, p.2]) = (xs.zip ys).map fun p => .tup [rT p.1, rT p.2]
  | [], _ => rfl
  | _ :: _, [] => rfl
  | x :: xs, y :: ys => by simp [zip_rows xs ys]
def spRow2 (f : Rat → Rat → Rat) : TSp := fun ts S R X => ∃ xs ys : List Rat, ts = [rowT xs, rowT ys] ∧ (∀ x ∈ xs, Sz 3000 x) ∧ (∀ y ∈ ys, Sz 3000 y) ∧ xs.length ≤ 1000 ∧ R (rowT ((xs.zip ys).map fun p => f p.1 p.2)) S
theorem w_added (G : Gx) (N : List Str) (hN : N.length = 4) {a : Str} (h0 : G.fns[0]? = some (a, spBin fun x y => x + y)) (ts : List T) (S : Sto) (R : RP) (X : XP) (h : spRow2 (fun x y => x + y) ts S R X) : ts.length = 2 ∧ wS b_added G (startE N ts) S { nx := fun _ S' => R .non S', rt := R, xx := fun _ => X } := by
  obtain ⟨xs, ys, rfl, sx, sy, l, k⟩ := h
  refine ⟨rfl, ?_⟩
  unfold startE
  rw [hN]
  show wS b_added G [some (.tup (xs.map rT)), some (.tup (ys.map rT)), none, none] S _
  simp only [b_added, wS, sem, Sm.val, Sm.tst, Sm.arg, Sm.itr, boolOf, truthOf, gT, gTs, zipK, seqOf, lstOf, Co.sem, oInt, Bo.sem, oAdd, oSub, oMul, oDiv, oMod, Bf.sem, oLen, oAbs, oInt1, oGcd, oNeg, oIx, Mt.sem, List.getElem?_cons_zero, List.getElem?_cons_succ, List.set_cons_zero, List.set_cons_succ, setAll, frz_lst, frz_dct, tru_bl, tru_int, oEq_int, oEq_str, Bool.false_bne, Bool.true_bne, if_true, if_false, Bool.false_eq_true, reduceIte, Bool.not_true, Bool.not_false, List.cons.injEq, true_and, and_true, List.length_cons, List.length_nil, Option.some.injEq, exists_eq_left', zip_rows]
  refine wLc_of (fun p : Rat × Rat => .tup [rT p.1, rT p.2]) (fun p => rT (p.1 + p.2)) trivial ?_ ?_ ?_
  · simp only [List.length_nil, List.length_zip]
    exact Nat.le_trans (show _ ≤ 1000 by omega) (by decide)
  · rintro ⟨x, y⟩ hp C hC
    obtain ⟨m1, m2⟩ := List.of_mem_zip hp
    simp only [wS, sem, Sm.val, Sm.tst, Sm.arg, Sm.itr, boolOf, truthOf, gT, gTs, zipK, seqOf, lstOf, Co.sem, oInt, Bo.sem, oAdd, oSub, oMul, oDiv, oMod, Bf.sem, oLen, oAbs, oInt1, oGcd, oNeg, oIx, Mt.sem, List.getElem?_cons_zero, List.getElem?_cons_succ, List.set_cons_zero, List.set_cons_succ, setAll, frz_lst, frz_dct, tru_bl, tru_int, oEq_int, oEq_str, Bool.false_bne, Bool.true_bne, if_true, if_false, Bool.false_eq_true, reduceIte, Bool.not_true, Bool.not_false, List.cons.injEq, true_and, and_true, List.length_cons, List.length_nil, Option.some.injEq, exists_eq_left', wipeE, List.map_cons, List.map_nil, h0, spBin]
    exact ⟨x, y, ⟨rfl, rfl⟩, sx x m1, sy y m2, hC⟩
  · intro _
    simp only [List.nil_append, oTup, wS, sem, Sm.val, Sm.tst, Sm.arg, Sm.itr, boolOf, truthOf, gT, gTs, zipK, seqOf, lstOf, Co.sem, oInt, Bo.sem, oAdd, oSub, oMul, oDiv, oMod, Bf.sem, oLen, oAbs, oInt1, oGcd, oNeg, oIx, Mt.sem, List.getElem?_cons_zero, List.getElem?_cons_succ, List.set_cons_zero, List.set_cons_succ, setAll, frz_lst, frz_dct, tru_bl, tru_int, oEq_int, oEq_str, Bool.false_bne, Bool.true_bne, if_true, if_false, Bool.false_eq_true, reduceIte, Bool.not_true, Bool.not_false, List.cons.injEq, true_and, and_true, List.length_cons, List.length_nil, Option.some.injEq, exists_eq_left']
    unfold rowT at k
    rw [List.map_map] at k
    exact k
theorem w_taken (G : Gx) (N : List Str) (hN : N.length = 4) {a : Str} (h0 : G.fns[0]? = some (a, spBin fun x y => x - y)) (ts : List T) (S : Sto) (R : RP) (X : XP) (h : spRow2 (fun x y => x - y) ts S R X) : ts.length = 2 ∧ wS b_taken G (startE N ts) S { nx := fun _ S' => R .non S', rt := R, xx := fun _ => X } := by
  obtain ⟨xs, ys, rfl, sx, sy, l, k⟩ := h
  refine ⟨rfl, ?_⟩
  unfold startE
  rw [hN]
  show wS b_taken G [some (.tup (xs.map rT)), some (.tup (ys.map rT)), none, none] S _
  simp only [b_taken, wS, sem, Sm.val, Sm.tst, Sm.arg, Sm.itr, boolOf, truthOf, gT, gTs, zipK, seqOf, lstOf, Co.sem, oInt, Bo.sem, oAdd, oSub, oMul, oDiv, oMod, Bf.sem, oLen, oAbs, oInt1, oGcd, oNeg, oIx, Mt.sem, List.getElem?_cons_zero, List.getElem?_cons_succ, List.set_cons_zero, List.set_cons_succ, setAll, frz_lst, frz_dct, tru_bl, tru_int, oEq_int, oEq_str, Bool.false_bne, Bool.true_bne, if_true, if_false, Bool.false_eq_true, reduceIte, Bool.not_true, Bool.not_false, List.cons.injEq, true_and, and_true, List.length_cons, List.length_nil, Option.some.injEq, exists_eq_left', zip_rows]
  refine wLc_of (fun p : Rat × Rat => .tup [rT p.1, rT p.2]) (fun p => rT (p.1 - p.2)) trivial ?_ ?_ ?_
  · simp only [List.length_nil, List.length_zip]
    exact Nat.le_trans (show _ ≤ 1000 by omega) (by decide)
  · rintro ⟨x, y⟩ hp C hC
    obtain ⟨m1, m2⟩ := List.of_mem_zip hp
    simp only [wS, sem, Sm.val, Sm.tst, Sm.arg, Sm.itr, boolOf, truthOf, gT, gTs, zipK, seqOf, lstOf, Co.sem, oInt, Bo.sem, oAdd, oSub, oMul, oDiv, oMod, Bf.sem, oLen, oAbs, oInt1, oGcd, oNeg, oIx, Mt.sem, List.getElem?_cons_zero, List.getElem?_cons_succ, List.set_cons_zero, List.set_cons_succ, setAll, frz_lst, frz_dct, tru_bl, tru_int, oEq_int, oEq_str, Bool.false_bne, Bool.true_bne, if_true, if_false, Bool.false_eq_true, reduceIte, Bool.not_true, Bool.not_false, List.cons.injEq, true_and, and_true, List.length_cons, List.length_nil, Option.some.injEq, exists_eq_left', wipeE, List.map_cons, List.map_nil, h0, spBin]
    exact ⟨x, y, ⟨rfl, rfl⟩, sx x m1, sy y m2, hC⟩
  · intro _
    simp only [List.nil_append, oTup, wS, sem, Sm.val, Sm.tst, Sm.arg, Sm.itr, boolOf, truthOf, gT, gTs, zipK, seqOf, lstOf, Co.sem, oInt, Bo.sem, oAdd, oSub, oMul, oDiv, oMod, Bf.sem, oLen, oAbs, oInt1, oGcd, oNeg, oIx, Mt.sem, List.getElem?_cons_zero, List.getElem?_cons_succ, List.set_cons_zero, List.set_cons_succ, setAll, frz_lst, frz_dct, tru_bl, tru_int, oEq_int, oEq_str, Bool.false_bne, Bool.true_bne, if_true, if_false, Bool.false_eq_true, reduceIte, Bool.not_true, Bool.not_false, List.cons.injEq, true_and, and_true, List.length_cons, List.length_nil, Option.some.injEq, exists_eq_left']
    unfold rowT at k
    rw [List.map_map] at k
    exact k
theorem w_lrsum (G : Gx) (N : List Str) (hN : N.length = 4) {a : Str} (h0 : G.fns[0]? = some (a, spBin fun x y => x + y)) (ts : List T) (S : Sto) (R : RP) (X : XP) (h : spRow2 (fun x y => x + y) ts S R X) : ts.length = 2 ∧ wS b_l_row_sum G (startE N ts) S { nx := fun _ S' => R .non S', rt := R, xx := fun _ => X } := by
  obtain ⟨xs, ys, rfl, sx, sy, l, k⟩ := h
  refine ⟨rfl, ?_⟩
  unfold startE
  rw [hN]
  show wS b_l_row_sum G [some (.tup (xs.map rT)), some (.tup (ys.map rT)), none, none] S _
  simp only [b_l_row_sum, wS, sem, Sm.val, Sm.tst, Sm.arg, Sm.itr, boolOf, truthOf, gT, gTs, zipK, seqOf, lstOf, Co.sem, oInt, Bo.sem, oAdd, oSub, oMul, oDiv, oMod, Bf.sem, oLen, oAbs, oInt1, oGcd, oNeg, oIx, Mt.sem, List.getElem?_cons_zero, List.getElem?_cons_succ, List.set_cons_zero, List.set_cons_succ, setAll, frz_lst, frz_dct, tru_bl, tru_int, oEq_int, oEq_str, Bool.false_bne, Bool.true_bne, if_true, if_false, Bool.false_eq_true, reduceIte, Bool.not_true, Bool.not_false, List.cons.injEq, true_and, and_true, List.length_cons, List.length_nil, Option.some.injEq, exists_eq_left', zip_rows]
  refine wLc_of (fun p : Rat × Rat => .tup [rT p.1, rT p.2]) (fun p => rT (p.1 + p.2)) trivial ?_ ?_ ?_
  · simp only [List.length_nil, List.length_zip]
    exact Nat.le_trans (show _ ≤ 1000 by omega) (by decide)
  · rintro ⟨x, y⟩ hp C hC
    obtain ⟨m1, m2⟩ := List.of_mem_zip hp
    simp only [wS, sem, Sm.val, Sm.tst, Sm.arg, Sm.itr, boolOf, truthOf, gT, gTs, zipK, seqOf, lstOf, Co.sem, oInt, Bo.sem, oAdd, oSub, oMul, oDiv, oMod, Bf.sem, oLen, oAbs, oInt1, oGcd, oNeg, oIx, Mt.sem, List.getElem?_cons_zero, List.getElem?_cons_succ, List.set_cons_zero, List.set_cons_succ, setAll, frz_lst, frz_dct, tru_bl, tru_int, oEq_int, oEq_str, Bool.false_bne, Bool.true_bne, if_true, if_false, Bool.false_eq_true, reduceIte, Bool.not_true, Bool.not_false, List.cons.injEq, true_and, and_true, List.length_cons, List.length_nil, Option.some.injEq, exists_eq_left', wipeE, List.map_cons, List.map_nil, h0, spBin]
    exact ⟨x, y, ⟨rfl, rfl⟩, sx x m1, sy y m2, hC⟩
  · intro _
    simp only [List.nil_append, oTup, wS, sem, Sm.val, Sm.tst, Sm.arg, Sm.itr, boolOf, truthOf, gT, gTs, zipK, seqOf, lstOf, Co.sem, oInt, Bo.sem, oAdd, oSub, oMul, oDiv, oMod, Bf.sem, oLen, oAbs, oInt1, oGcd, oNeg, oIx, Mt.sem, List.getElem?_cons_zero, List.getElem?_cons_succ, List.set_cons_zero, List.set_cons_succ, setAll, frz_lst, frz_dct, tru_bl, tru_int, oEq_int, oEq_str, Bool.false_bne, Bool.true_bne, if_true, if_false, Bool.false_eq_true, reduceIte, Bool.not_true, Bool.not_false, List.cons.injEq, true_and, and_true, List.length_cons, List.length_nil, Option.some.injEq, exists_eq_left']
    unfold rowT at k
    rw [List.map_map] at k
    exact k
theorem w_lrless (G : Gx) (N : List Str) (hN : N.length = 4) {a : Str} (h0 : G.fns[0]? = some (a, spBin fun x y => x - y)) (ts : List T) (S : Sto) (R : RP) (X : XP) (h : spRow2 (fun x y => x - y) ts S R X) : ts.length = 2 ∧ wS b_l_row_less G (startE N ts) S { nx := fun _ S' => R .non S', rt := R, xx := fun _ => X } := by
  obtain ⟨xs, ys, rfl, sx, sy, l, k⟩ := h
  refine ⟨rfl, ?_⟩
  unfold startE
  rw [hN]
  show wS b_l_row_less G [some (.tup (xs.map rT)), some (.tup (ys.map rT)), none, none] S _
  simp only [b_l_row_less, wS, sem, Sm.val, Sm.tst, Sm.arg, Sm.itr, boolOf, truthOf, gT, gTs, zipK, seqOf, lstOf, Co.sem, oInt, Bo.sem, oAdd, oSub, oMul, oDiv, oMod, Bf.sem, oLen, oAbs, oInt1, oGcd, oNeg, oIx, Mt.sem, List.getElem?_cons_zero, List.getElem?_cons_succ, List.set_cons_zero, List.set_cons_succ, setAll, frz_lst, frz_dct, tru_bl, tru_int, oEq_int, oEq_str, Bool.false_bne, Bool.true_bne, if_true, if_false, Bool.false_eq_true, reduceIte, Bool.not_true, Bool.not_false, List.cons.injEq, true_and, and_true, List.length_cons, List.length_nil, Option.some.injEq, exists_eq_left', zip_rows]
  refine wLc_of (fun p : Rat × Rat => .tup [rT p.1, rT p.2]) (fun p => rT (p.1 - p.2)) trivial ?_ ?_ ?_
  · simp only [List.length_nil, List.length_zip]
    exact Nat.le_trans (show _ ≤ 1000 by omega) (by decide)
  · rintro ⟨x, y⟩ hp C hC
    obtain ⟨m1, m2⟩ := List.of_mem_zip hp
    simp only [wS, sem, Sm.val, Sm.tst, Sm.arg, Sm.itr, boolOf, truthOf, gT, gTs, zipK, seqOf, lstOf, Co.sem, oInt, Bo.sem, oAdd, oSub, oMul, oDiv, oMod, Bf.sem, oLen, oAbs, oInt1, oGcd, oNeg, oIx, Mt.sem, List.getElem?_cons_zero, List.getElem?_cons_succ, List.set_cons_zero, List.set_cons_succ, setAll, frz_lst, frz_dct, tru_bl, tru_int, oEq_int, oEq_str, Bool.false_bne, Bool.true_bne, if_true, if_false, Bool.false_eq_true, reduceIte, Bool.not_true, Bool.not_false, List.cons.injEq, true_and, and_true, List.length_cons, List.length_nil, Option.some.injEq, exists_eq_left', wipeE, List.map_cons, List.map_nil, h0, spBin]
    exact ⟨x, y, ⟨rfl, rfl⟩, sx x m1, sy y m2, hC⟩
  · intro _
    simp only [List.nil_append, oTup, wS, sem, Sm.val, Sm.tst, Sm.arg, Sm.itr, boolOf, truthOf, gT, gTs, zipK, seqOf, lstOf, Co.sem, oInt, Bo.sem, oAdd, oSub, oMul, oDiv, oMod, Bf.sem, oLen, oAbs, oInt1, oGcd, oNeg, oIx, Mt.sem, List.getElem?_cons_zero, List.getElem?_cons_succ, List.set_cons_zero, List.set_cons_succ, setAll, frz_lst, frz_dct, tru_bl, tru_int, oEq_int, oEq_str, Bool.false_bne, Bool.true_bne, if_true, if_false, Bool.false_eq_true, reduceIte, Bool.not_true, Bool.not_false, List.cons.injEq, true_and, and_true, List.length_cons, List.length_nil, Option.some.injEq, exists_eq_left']
    unfold rowT at k
    rw [List.map_map] at k
    exact k
def spScale : TSp := fun ts S R X => ∃ (xs : List Rat) (q : Rat), ts = [rowT xs, rT q] ∧ (∀ x ∈ xs, Sz 3000 x) ∧ Sz 3000 q ∧ xs.length ≤ 1000 ∧ R (rowT (xs.map fun x => x * q)) S
theorem w_scaled (G : Gx) (N : List Str) (hN : N.length = 3) {a : Str} (h0 : G.fns[0]? = some (a, spBin fun x y => x * y)) (ts : List T) (S : Sto) (R : RP) (X : XP) (h : spScale ts S R X) : ts.length = 2 ∧ wS b_scaled G (startE N ts) S { nx := fun _ S' => R .non S', rt := R, xx := fun _ => X } := by
  obtain ⟨xs, q, rfl, sx, sq, l, k⟩ := h
  refine ⟨rfl, ?_⟩
  unfold startE
  rw [hN]
  show wS b_scaled G [some (.tup (xs.map rT)), some (rT q), none] S _
  simp only [b_scaled, wS, sem, Sm.val, Sm.tst, Sm.arg, Sm.itr, boolOf, truthOf, gT, gTs, zipK, seqOf, lstOf, Co.sem, oInt, Bo.sem, oAdd, oSub, oMul, oDiv, oMod, Bf.sem, oLen, oAbs, oInt1, oGcd, oNeg, oIx, Mt.sem, List.getElem?_cons_zero, List.getElem?_cons_succ, List.set_cons_zero, List.set_cons_succ, setAll, frz_lst, frz_dct, tru_bl, tru_int, oEq_int, oEq_str, Bool.false_bne, Bool.true_bne, if_true, if_false, Bool.false_eq_true, reduceIte, Bool.not_true, Bool.not_false, List.cons.injEq, true_and, and_true, List.length_cons, List.length_nil, Option.some.injEq, exists_eq_left']
  refine wLc_of rT (fun x => rT (x * q)) trivial ?_ ?_ ?_
  · simp only [List.length_nil]
    exact Nat.le_trans (show _ ≤ 1000 by omega) (by decide)
  · intro x hx C hC
    simp only [wS, sem, Sm.val, Sm.tst, Sm.arg, Sm.itr, boolOf, truthOf, gT, gTs, zipK, seqOf, lstOf, Co.sem, oInt, Bo.sem, oAdd, oSub, oMul, oDiv, oMod, Bf.sem, oLen, oAbs, oInt1, oGcd, oNeg, oIx, Mt.sem, List.getElem?_cons_zero, List.getElem?_cons_succ, List.set_cons_zero, List.set_cons_succ, setAll, frz_lst, frz_dct, tru_bl, tru_int, oEq_int, oEq_str, Bool.false_bne, Bool.true_bne, if_true, if_false, Bool.false_eq_true, reduceIte, Bool.not_true, Bool.not_false, List.cons.injEq, true_and, and_true, List.length_cons, List.length_nil, Option.some.injEq, exists_eq_left', wipeE, List.map_cons, List.map_nil, h0, spBin]
    exact ⟨x, q, ⟨rfl, rfl⟩, sx x hx, sq, hC⟩
  · intro _
    simp only [List.nil_append, oTup, wS, sem, Sm.val, Sm.tst, Sm.arg, Sm.itr, boolOf, truthOf, gT, gTs, zipK, seqOf, lstOf, Co.sem, oInt, Bo.sem, oAdd, oSub, oMul, oDiv, oMod, Bf.sem, oLen, oAbs, oInt1, oGcd, oNeg, oIx, Mt.sem, List.getElem?_cons_zero, List.getElem?_cons_succ, List.set_cons_zero, List.set_cons_succ, setAll, frz_lst, frz_dct, tru_bl, tru_int, oEq_int, oEq_str, Bool.false_bne, Bool.true_bne, if_true, if_false, Bool.false_eq_true, reduceIte, Bool.not_true, Bool.not_false, List.cons.injEq, true_and, and_true, List.length_cons, List.length_nil, Option.some.injEq, exists_eq_left']
    unfold rowT at k
    rw [List.map_map] at k
    exact k
theorem w_lrtimes (G : Gx) (N : List Str) (hN : N.length = 3) {a : Str} (h0 : G.fns[0]? = some (a, spBin fun x y => x * y)) (ts : List T) (S : Sto) (R : RP) (X : XP) (h : spScale ts S R X) : ts.length = 2 ∧ wS b_l_row_times G (startE N ts) S { nx := fun _ S' => R .non S', rt := R, xx := fun _ => X } := by
  obtain ⟨xs, q, rfl, sx, sq, l, k⟩ := h
  refine ⟨rfl, ?_⟩
  unfold startE
  rw [hN]
  show wS b_l_row_times G [some (.tup (xs.map rT)), some (rT q), none] S _
  simp only [b_l_row_times, wS, sem, Sm.val, Sm.tst, Sm.arg, Sm.itr, boolOf, truthOf, gT, gTs, zipK, seqOf, lstOf, Co.sem, oInt, Bo.sem, oAdd, oSub, oMul, oDiv, oMod, Bf.sem, oLen, oAbs, oInt1, oGcd, oNeg, oIx, Mt.sem, List.getElem?_cons_zero, List.getElem?_cons_succ, List.set_cons_zero, List.set_cons_succ, setAll, frz_lst, frz_dct, tru_bl, tru_int, oEq_int, oEq_str, Bool.false_bne, Bool.true_bne, if_true, if_false, Bool.false_eq_true, reduceIte, Bool.not_true, Bool.not_false, List.cons.injEq, true_and, and_true, List.length_cons, List.length_nil, Option.some.injEq, exists_eq_left']
  refine wLc_of rT (fun x => rT (x * q)) trivial ?_ ?_ ?_
  · simp only [List.length_nil]
    exact Nat.le_trans (show _ ≤ 1000 by omega) (by decide)
  · intro x hx C hC
    simp only [wS, sem, Sm.val, Sm.tst, Sm.arg, Sm.itr, boolOf, truthOf, gT, gTs, zipK, seqOf, lstOf, Co.sem, oInt, Bo.sem, oAdd, oSub, oMul, oDiv, oMod, Bf.sem, oLen, oAbs, oInt1, oGcd, oNeg, oIx, Mt.sem, List.getElem?_cons_zero, List.getElem?_cons_succ, List.set_cons_zero, List.set_cons_succ, setAll, frz_lst, frz_dct, tru_bl, tru_int, oEq_int, oEq_str, Bool.false_bne, Bool.true_bne, if_true, if_false, Bool.false_eq_true, reduceIte, Bool.not_true, Bool.not_false, List.cons.injEq, true_and, and_true, List.length_cons, List.length_nil, Option.some.injEq, exists_eq_left', wipeE, List.map_cons, List.map_nil, h0, spBin]
    exact ⟨x, q, ⟨rfl, rfl⟩, sx x hx, sq, hC⟩
  · intro _
    simp only [List.nil_append, oTup, wS, sem, Sm.val, Sm.tst, Sm.arg, Sm.itr, boolOf, truthOf, gT, gTs, zipK, seqOf, lstOf, Co.sem, oInt, Bo.sem, oAdd, oSub, oMul, oDiv, oMod, Bf.sem, oLen, oAbs, oInt1, oGcd, oNeg, oIx, Mt.sem, List.getElem?_cons_zero, List.getElem?_cons_succ, List.set_cons_zero, List.set_cons_succ, setAll, frz_lst, frz_dct, tru_bl, tru_int, oEq_int, oEq_str, Bool.false_bne, Bool.true_bne, if_true, if_false, Bool.false_eq_true, reduceIte, Bool.not_true, Bool.not_false, List.cons.injEq, true_and, and_true, List.length_cons, List.length_nil, Option.some.injEq, exists_eq_left']
    unfold rowT at k
    rw [List.map_map] at k
    exact k
def spBack : TSp := fun ts S R X => ∃ xs : List Rat, ts = [rowT xs] ∧ xs.length ≤ 1000 ∧ R (rowT (xs.map fun x => -x)) S
theorem w_back (G : Gx) (N : List Str) (hN : N.length = 2) {a : Str} (h0 : G.fns[0]? = some (a, spNeg)) (ts : List T) (S : Sto) (R : RP) (X : XP) (h : spBack ts S R X) : ts.length = 1 ∧ wS b_back G (startE N ts) S { nx := fun _ S' => R .non S', rt := R, xx := fun _ => X } := by
  obtain ⟨xs, rfl, l, k⟩ := h
  refine ⟨rfl, ?_⟩
  unfold startE
  rw [hN]
  show wS b_back G [some (.tup (xs.map rT)), none] S _
  simp only [b_back, wS, sem, Sm.val, Sm.tst, Sm.arg, Sm.itr, boolOf, truthOf, gT, gTs, zipK, seqOf, lstOf, Co.sem, oInt, Bo.sem, oAdd, oSub, oMul, oDiv, oMod, Bf.sem, oLen, oAbs, oInt1, oGcd, oNeg, oIx, Mt.sem, List.getElem?_cons_zero, List.getElem?_cons_succ, List.set_cons_zero, List.set_cons_succ, setAll, frz_lst, frz_dct, tru_bl, tru_int, oEq_int, oEq_str, Bool.false_bne, Bool.true_bne, if_true, if_false, Bool.false_eq_true, reduceIte, Bool.not_true, Bool.not_false, List.cons.injEq, true_and, and_true, List.length_cons, List.length_nil, Option.some.injEq, exists_eq_left']
  refine wLc_of rT (fun x => rT (-x)) trivial ?_ ?_ ?_
  · simp only [List.length_nil]
    exact Nat.le_trans (show _ ≤ 1000 by omega) (by decide)
  · intro x hx C hC
    simp only [wS, sem, Sm.val, Sm.tst, Sm.arg, Sm.itr, boolOf, truthOf, gT, gTs, zipK, seqOf, lstOf, Co.sem, oInt, Bo.sem, oAdd, oSub, oMul, oDiv, oMod, Bf.sem, oLen, oAbs, oInt1, oGcd, oNeg, oIx, Mt.sem, List.getElem?_cons_zero, List.getElem?_cons_succ, List.set_cons_zero, List.set_cons_succ, setAll, frz_lst, frz_dct, tru_bl, tru_int, oEq_int, oEq_str, Bool.false_bne, Bool.true_bne, if_true, if_false, Bool.false_eq_true, reduceIte, Bool.not_true, Bool.not_false, List.cons.injEq, true_and, and_true, List.length_cons, List.length_nil, Option.some.injEq, exists_eq_left', wipeE, List.map_cons, List.map_nil, h0, spNeg]
    exact ⟨x.num, x.den, rfl, hC⟩
  · intro _
    simp only [List.nil_append, oTup, wS, sem, Sm.val, Sm.tst, Sm.arg, Sm.itr, boolOf, truthOf, gT, gTs, zipK, seqOf, lstOf, Co.sem, oInt, Bo.sem, oAdd, oSub, oMul, oDiv, oMod, Bf.sem, oLen, oAbs, oInt1, oGcd, oNeg, oIx, Mt.sem, List.getElem?_cons_zero, List.getElem?_cons_succ, List.set_cons_zero, List.set_cons_succ, setAll, frz_lst, frz_dct, tru_bl, tru_int, oEq_int, oEq_str, Bool.false_bne, Bool.true_bne, if_true, if_false, Bool.false_eq_true, reduceIte, Bool.not_true, Bool.not_false, List.cons.injEq, true_and, and_true, List.length_cons, List.length_nil, Option.some.injEq, exists_eq_left']
    unfold rowT at k
    rw [List.map_map] at k
    exact k
end TP

set_option maxHeartbeats 4000000
namespace TP
open PySem PySem.Spec PyProof.Rows L2

/-! ### sums of many -/
def b_l_all_0 : Stm := .cons (.ret (.var 1)) .nil
def b_l_all_1 : Stm := .cons (.asg (.nm 1) (.call 0 (.cons (.var 1) (.cons (.var 2) .nil)))) .nil
def b_l_all_2 : Stm := .cons (.for_ (.nm 2) (.iA (.var 0)) b_l_all_1) b_l_all_0
def b_l_all_3 : Stm := .cons (.asg (.nm 1) (.tup (.cons (.int 0) (.cons (.int 1) .nil)))) b_l_all_2
def n_l_all : List Str := ["_law_fractions", "_law_found", "_law_x"]
abbrev b_l_all : Stm := b_l_all_3
def sumR : List Rat → Rat
  | [] => 0
  | x :: xs => x + sumR xs
theorem sumR_app : ∀ (xs ys : List Rat), sumR (xs ++ ys) = sumR xs + sumR ys
  | [], ys => by simp [sumR, Rat.zero_add]
  | x :: xs, ys => by simp [sumR, sumR_app xs ys, Rat.add_assoc]
theorem sz_zero : Sz 1 (0 : Rat) := ⟨by show (0 : Nat) < _; decide, by show (1 : Nat) < _; decide⟩
theorem sz_sum {k : Nat} : ∀ (xs : List Rat), (∀ x ∈ xs, Sz k x) → Sz ((k + 1) * xs.length + 1) (sumR xs)
  | [], _ => sz_zero.up (by simp)
  | x :: xs, h => by
    have a := h x (by simp)
    have b := sz_sum xs fun y hy => h y (by simp [hy])
    exact (sz_add a b).up (by simp only [List.length_cons, Nat.mul_add]; omega)
def spAll : TSp := fun ts S R X => ∃ (xs : List Rat) (k : Nat), ts = [.lst (xs.map rT)] ∧ (∀ x ∈ xs, Sz k x) ∧ k ≤ 3000 ∧ (k + 1) * xs.length + 1 ≤ 3000 ∧ R (rT (sumR xs)) S
theorem w_all (G : Gx) (N : List Str) (hN : N.length = 3) {a : Str} (h0 : G.fns[0]? = some (a, spBin fun x y => x + y)) (ts : List T) (S : Sto) (R : RP) (X : XP) (h : spAll ts S R X) : ts.length = 1 ∧ wS b_l_all G (startE N ts) S { nx := fun _ S' => R .non S', rt := R, xx := fun _ => X } := by
  obtain ⟨xs, kk, rfl, sx, l1, l2, k⟩ := h
  refine ⟨rfl, ?_⟩
  unfold startE
  rw [hN]
  show wS b_l_all G [some (.lst (xs.map rT)), none, none] S _
  simp only [b_l_all, b_l_all_3, b_l_all_2, wS, sem, Sm.val, Sm.tst, Sm.arg, Sm.itr, boolOf, truthOf, gT, gTs, zipK, seqOf, lstOf, Co.sem, oInt, Bo.sem, oAdd, oSub, oMul, oDiv, oMod, Bf.sem, oLen, oAbs, oInt1, oGcd, oNeg, oIx, Mt.sem, List.getElem?_cons_zero, List.getElem?_cons_succ, List.set_cons_zero, List.set_cons_succ, setAll, frz_lst, frz_dct, tru_bl, tru_int, oEq_int, oEq_str, Bool.false_bne, Bool.true_bne, if_true, if_false, Bool.false_eq_true, reduceIte, Bool.not_true, Bool.not_false, List.cons.injEq, true_and, and_true, List.length_cons, List.length_nil, Option.some.injEq, exists_eq_left']
  refine ⟨by decide, ?_⟩
  refine wFor_by (fun i e S' => S' = S ∧ ∃ y, e = [some (.lst (xs.map rT)), some (rT (sumR (xs.take i))), y]) (fun _ _ _ _ => trivial) ?_ ?_ ⟨rfl, none, rfl⟩
  · rintro i t e S' C ht ⟨rfl, y, rfl⟩ hC
    rw [List.getElem?_map] at ht
    obtain ⟨x, hx, rfl⟩ := Option.map_eq_some_iff.mp ht
    have hi := (List.getElem?_eq_some_iff.mp hx).1
    have mx := List.mem_of_getElem? hx
    simp only [b_l_all_1, wS, sem, Sm.val, Sm.tst, Sm.arg, Sm.itr, boolOf, truthOf, gT, gTs, zipK, seqOf, lstOf, Co.sem, oInt, Bo.sem, oAdd, oSub, oMul, oDiv, oMod, Bf.sem, oLen, oAbs, oInt1, oGcd, oNeg, oIx, Mt.sem, List.getElem?_cons_zero, List.getElem?_cons_succ, List.set_cons_zero, List.set_cons_succ, setAll, frz_lst, frz_dct, tru_bl, tru_int, oEq_int, oEq_str, Bool.false_bne, Bool.true_bne, if_true, if_false, Bool.false_eq_true, reduceIte, Bool.not_true, Bool.not_false, List.cons.injEq, true_and, and_true, List.length_cons, List.length_nil, Option.some.injEq, exists_eq_left', h0, spBin]
    refine ⟨_, _, ⟨rfl, rfl⟩, (sz_sum (xs.take i) fun z hz => sx z (List.mem_of_mem_take hz)).up ?_, (sx x mx).up l1, hC _ _ ⟨rfl, some (rT x), ?_⟩⟩
    · have : (kk + 1) * (xs.take i).length ≤ (kk + 1) * xs.length := Nat.mul_le_mul_left _ (by rw [List.length_take]; omega)
      omega
    · have e : xs.take (i + 1) = xs.take i ++ [x] := by rw [List.take_succ, hx]; rfl
      rw [e, sumR_app]
      simp only [sumR, Rat.add_zero]
  · rintro e S' ⟨rfl, y, rfl⟩
    simp only [b_l_all_0, wS, sem, Sm.val, Sm.tst, Sm.arg, Sm.itr, boolOf, truthOf, gT, gTs, zipK, seqOf, lstOf, Co.sem, oInt, Bo.sem, oAdd, oSub, oMul, oDiv, oMod, Bf.sem, oLen, oAbs, oInt1, oGcd, oNeg, oIx, Mt.sem, List.getElem?_cons_zero, List.getElem?_cons_succ, List.set_cons_zero, List.set_cons_succ, setAll, frz_lst, frz_dct, tru_bl, tru_int, oEq_int, oEq_str, Bool.false_bne, Bool.true_bne, if_true, if_false, Bool.false_eq_true, reduceIte, Bool.not_true, Bool.not_false, List.cons.injEq, true_and, and_true, List.length_cons, List.length_nil, Option.some.injEq, exists_eq_left']
    rw [List.length_map, List.take_length]
    exact k
end TP

set_option maxHeartbeats 1000000
namespace TP
open PySem PySem.Spec PyProof.Rows L2
theorem rg_two {n : Nat} (h : 2 ≤ n) (l : n < 2 ^ 60) : RgC 0 ((n : Int) - 1) 2 (n / 2) := by
  have e : Builtin.Range.rangeSize 0 ((n : Int) - 1) 2 = ((n / 2 : Nat) : Int) := by
    unfold Builtin.Range.rangeSize
    rw [if_pos (by decide), if_pos (by omega)]
    omega
  refine ⟨by decide, by decide, ?_, e⟩
  have f : ∀ i : Int, -(2 ^ 61) ≤ i → i ≤ 2 ^ 61 → Builtin.Range.rangeFitsLong i = true := fun i a b => by
    unfold Builtin.Range.rangeFitsLong
    simp
    omega
  unfold Builtin.Range.small
  rw [e, f 0 (by omega) (by omega), f _ (by omega) (by omega), f 2 (by omega) (by omega), f _ (by omega) (by omega), if_pos (by decide), f _ (by omega) (by omega)]
  simp
end TP

set_option maxHeartbeats 1000000
namespace TP
open PySem PySem.Spec PyProof.Rows L2

/-! ### the program's own sum of many: pairs, again and again -/
abbrev Wr := Rat × Nat
def merge : List Wr → List Wr
  | x :: y :: r => (x.1 + y.1, x.2 + y.2 + 1) :: merge r
  | r => r
def wsum : List Wr → Nat
  | [] => 0
  | x :: r => x.2 + 1 + wsum r
theorem merge_sum : ∀ ps : List Wr, sumR ((merge ps).map (·.1)) = sumR (ps.map (·.1))
  | [] => rfl
  | [_] => rfl
  | x :: y :: r => by
    show (x.1 + y.1) + sumR ((merge r).map (·.1)) = x.1 + (y.1 + sumR (r.map (·.1)))
    rw [merge_sum r, Rat.add_assoc]
theorem merge_w : ∀ ps : List Wr, wsum (merge ps) = wsum ps
  | [] => rfl
  | [_] => rfl
  | x :: y :: r => by
    show x.2 + y.2 + 1 + 1 + wsum (merge r) = x.2 + 1 + (y.2 + 1 + wsum r)
    rw [merge_w r]; omega
theorem merge_len : ∀ ps : List Wr, (merge ps).length = (ps.length + 1) / 2
  | [] => rfl
  | [_] => by simp [merge]
  | x :: y :: r => by
    show (merge r).length + 1 = (r.length + 1 + 1 + 1) / 2
    rw [merge_len r]; omega
theorem merge_sz : ∀ ps : List Wr, (∀ p ∈ ps, Sz p.2 p.1) → ∀ p ∈ merge ps, Sz p.2 p.1
  | [], h => h
  | [_], h => h
  | x :: y :: r, h => fun p hp => by
    rcases List.mem_cons.mp hp with rfl | hp
    · exact sz_add (h x (by simp)) (h y (by simp))
    · exact merge_sz r (fun q hq => h q (by simp [hq])) p hp
theorem merge_eq : ∀ ps : List Wr, (merge ps).map (fun p => rT p.1) = (List.range (ps.length / 2)).map (fun i => rT ((ps.getD (2 * i) (0, 0)).1 + (ps.getD (2 * i + 1) (0, 0)).1)) ++ (ps.map fun p => rT p.1).drop (ps.length - ps.length % 2)
  | [] => rfl
  | [_] => by simp [merge]
  | x :: y :: r => by
    have ih := merge_eq r
    have e1 : (x :: y :: r).length / 2 = r.length / 2 + 1 := by simp only [List.length_cons]; omega
    have e2 : (x :: y :: r).length - (x :: y :: r).length % 2 = r.length - r.length % 2 + 2 := by simp only [List.length_cons]; omega
    rw [e1, e2, List.range_succ_eq_map]
    simp only [List.map_cons, List.map_map, merge, List.cons_append, List.drop_succ_cons]
    rw [ih]
    rfl
theorem le_wsum : ∀ {ps : List Wr} {p : Wr}, p ∈ ps → p.2 + 1 ≤ wsum ps
  | x :: r, p, h => by
    rcases List.mem_cons.mp h with rfl | h
    · show p.2 + 1 ≤ p.2 + 1 + wsum r; omega
    · have := le_wsum h; show p.2 + 1 ≤ x.2 + 1 + wsum r; omega
theorem len_wsum : ∀ ps : List Wr, ps.length ≤ wsum ps
  | [] => Nat.le_refl _
  | x :: r => by have := len_wsum r; show r.length + 1 ≤ x.2 + 1 + wsum r; omega
end TP

set_option maxHeartbeats 4000000
namespace TP
open PySem PySem.Spec PyProof.Rows L2

def b_total_0 : Stm := .cons (.ret (.ife (.var 1) (.ix (.var 1) (.int 0)) (.con 0))) .nil
def b_total_1 : Stm := .cons (.asg (.nm 1) (.frz (.bin .add (.frz (.lc [("k", 3)] (.nm 3) (.iR3 (.int 0) (.bin .sub (.blt .len (.cons (.var 1) .nil)) (.int 1)) (.int 2)) (.call 0 (.cons (.ix (.var 1) (.var 3)) (.cons (.ix (.var 1) (.bin .add (.var 3) (.int 1))) .nil))))) (.var 2)))) .nil
def b_total_2 : Stm := .cons (.asg (.nm 2) (.frz (.sl (.var 1) (.cons (.bin .sub (.blt .len (.cons (.var 1) .nil)) (.bin .mod (.blt .len (.cons (.var 1) .nil)) (.int 2))) .nil) .nop))) b_total_1
def b_total_3 : Stm := .cons (.while_ (.cmp .gt (.blt .len (.cons (.var 1) .nil)) (.int 1)) b_total_2) b_total_0
def b_total_4 : Stm := .cons (.asg (.nm 1) (.frz (.blt .list (.cons (.var 0) .nil)))) b_total_3
def n_total : List Str := ["fractions", "parts", "odd", "k"]
abbrev b_total : Stm := b_total_4
def rW (p : Wr) : T := rT p.1
theorem cut_from {us : List T} {k : Nat} (h : k ≤ us.length) : cutT us (some (k : Int)) none = us.drop k := by
  unfold cutT
  rw [HT.sIx_nat, HT.sIx_none, Nat.min_eq_left h]
  exact List.take_of_length_le (by simp)
def spTot : TSp := fun ts S R X => ∃ ps : List Wr, ts = [.lst (ps.map rW)] ∧ (∀ p ∈ ps, Sz p.2 p.1) ∧ wsum ps ≤ 3000 ∧ R (rT (sumR (ps.map (·.1)))) S
theorem w_total (G : Gx) (N : List Str) (hN : N.length = 4) {a z : Str} (h0 : G.fns[0]? = some (a, spBin fun x y => x + y)) (hc : G.cons[0]? = some (z, rT 0)) (ts : List T) (S : Sto) (R : RP) (X : XP) (h : spTot ts S R X) : ts.length = 1 ∧ wS b_total G (startE N ts) S { nx := fun _ S' => R .non S', rt := R, xx := fun _ => X } := by
  obtain ⟨ps, rfl, sp, lw, k⟩ := h
  refine ⟨rfl, ?_⟩
  unfold startE
  rw [hN]
  show wS b_total G [some (.lst (ps.map rW)), none, none, none] S _
  simp only [b_total, b_total_4, wS, sem, Sm.val, Sm.tst, Sm.arg, Sm.itr, boolOf, truthOf, gT, gTs, zipK, seqOf, lstOf, Co.sem, oInt, Bo.sem, oAdd, oSub, oMul, oDiv, oMod, Bf.sem, oLen, oAbs, oInt1, oGcd, oNeg, oIx, Mt.sem, List.getElem?_cons_zero, List.getElem?_cons_succ, List.set_cons_zero, List.set_cons_succ, setAll, frz_lst, frz_dct, tru_bl, tru_int, oEq_int, oEq_str, Bool.false_bne, Bool.true_bne, if_true, if_false, Bool.false_eq_true, reduceIte, Bool.not_true, Bool.not_false, List.cons.injEq, true_and, and_true, List.length_cons, List.length_nil, Option.some.injEq, exists_eq_left', oList]
  intro _
  simp only [b_total_3, wS, sem, Sm.val, Sm.tst, Sm.arg, Sm.itr, boolOf, truthOf, gT, gTs, zipK, seqOf, lstOf, Co.sem, oInt, Bo.sem, oAdd, oSub, oMul, oDiv, oMod, Bf.sem, oLen, oAbs, oInt1, oGcd, oNeg, oIx, Mt.sem, List.getElem?_cons_zero, List.getElem?_cons_succ, List.set_cons_zero, List.set_cons_succ, setAll, frz_lst, frz_dct, tru_bl, tru_int, oEq_int, oEq_str, Bool.false_bne, Bool.true_bne, if_true, if_false, Bool.false_eq_true, reduceIte, Bool.not_true, Bool.not_false, List.cons.injEq, true_and, and_true, List.length_cons, List.length_nil, Option.some.injEq, exists_eq_left']
  refine ⟨fun m e S' => S' = S ∧ ∃ (qs : List Wr) (o3 o4 : Option T), e = [some (.lst (ps.map rW)), some (.lst (qs.map rW)), o3, o4] ∧ (∀ q ∈ qs, Sz q.2 q.1) ∧ wsum qs = wsum ps ∧ sumR (qs.map (·.1)) = sumR (ps.map (·.1)) ∧ m = qs.length, ⟨_, rfl, ps, none, none, rfl, sp, rfl, rfl, rfl⟩, ?_⟩
  rintro m e S' ⟨rfl, qs, o3, o4, rfl, sq, ew, es, hm⟩
  simp only [wS, sem, Sm.val, Sm.tst, Sm.arg, Sm.itr, boolOf, truthOf, gT, gTs, zipK, seqOf, lstOf, Co.sem, oInt, Bo.sem, oAdd, oSub, oMul, oDiv, oMod, Bf.sem, oLen, oAbs, oInt1, oGcd, oNeg, oIx, Mt.sem, List.getElem?_cons_zero, List.getElem?_cons_succ, List.set_cons_zero, List.set_cons_succ, setAll, frz_lst, frz_dct, tru_bl, tru_int, oEq_int, oEq_str, Bool.false_bne, Bool.true_bne, if_true, if_false, Bool.false_eq_true, reduceIte, Bool.not_true, Bool.not_false, List.cons.injEq, true_and, and_true, List.length_cons, List.length_nil, Option.some.injEq, exists_eq_left', List.length_map]
  by_cases hl : (1 : Int) < (qs.length : Int)
  · simp only [hl, decide_true, wS, sem, Sm.val, Sm.tst, Sm.arg, Sm.itr, boolOf, truthOf, gT, gTs, zipK, seqOf, lstOf, Co.sem, oInt, Bo.sem, oAdd, oSub, oMul, oDiv, oMod, Bf.sem, oLen, oAbs, oInt1, oGcd, oNeg, oIx, Mt.sem, List.getElem?_cons_zero, List.getElem?_cons_succ, List.set_cons_zero, List.set_cons_succ, setAll, frz_lst, frz_dct, tru_bl, tru_int, oEq_int, oEq_str, Bool.false_bne, Bool.true_bne, if_true, if_false, Bool.false_eq_true, reduceIte, Bool.not_true, Bool.not_false, List.cons.injEq, true_and, and_true, List.length_cons, List.length_nil, Option.some.injEq, exists_eq_left']
    simp only [b_total_2, wS, sem, Sm.val, Sm.tst, Sm.arg, Sm.itr, boolOf, truthOf, gT, gTs, zipK, seqOf, lstOf, Co.sem, oInt, Bo.sem, oAdd, oSub, oMul, oDiv, oMod, Bf.sem, oLen, oAbs, oInt1, oGcd, oNeg, oIx, Mt.sem, List.getElem?_cons_zero, List.getElem?_cons_succ, List.set_cons_zero, List.set_cons_succ, setAll, frz_lst, frz_dct, tru_bl, tru_int, oEq_int, oEq_str, Bool.false_bne, Bool.true_bne, if_true, if_false, Bool.false_eq_true, reduceIte, Bool.not_true, Bool.not_false, List.cons.injEq, true_and, and_true, List.length_cons, List.length_nil, Option.some.injEq, exists_eq_left', slP, oSl]
    refine ⟨by omega, fun _ => ?_⟩
    have ev : (((qs.map rW).length : Int) - ((qs.map rW).length : Int).fmod 2) = ((qs.length - qs.length % 2 : Nat) : Int) := by
      rw [Int.fmod_eq_emod_of_nonneg _ (by omega), List.length_map]
      omega
    rw [ev, cut_from (by rw [List.length_map]; omega)]
    have lq := len_wsum qs
    have big : qs.length < 2 ^ 60 := by omega
    simp only [b_total_1, wS, sem, Sm.val, Sm.tst, Sm.arg, Sm.itr, boolOf, truthOf, gT, gTs, zipK, seqOf, lstOf, Co.sem, oInt, Bo.sem, oAdd, oSub, oMul, oDiv, oMod, Bf.sem, oLen, oAbs, oInt1, oGcd, oNeg, oIx, Mt.sem, List.getElem?_cons_zero, List.getElem?_cons_succ, List.set_cons_zero, List.set_cons_succ, setAll, frz_lst, frz_dct, tru_bl, tru_int, oEq_int, oEq_str, Bool.false_bne, Bool.true_bne, if_true, if_false, Bool.false_eq_true, reduceIte, Bool.not_true, Bool.not_false, List.cons.injEq, true_and, and_true, List.length_cons, List.length_nil, Option.some.injEq, exists_eq_left', List.length_map]
    refine ⟨_, rg_two (by omega) big, ?_⟩
    refine wLc_of (fun m : Nat => T.int (0 + (m : Int) * 2)) (fun i => rT ((qs.getD (2 * i) (0, 0)).1 + (qs.getD (2 * i + 1) (0, 0)).1)) trivial ?_ ?_ ?_
    · simp only [List.length_nil, List.length_range]
      exact Nat.le_trans (show _ ≤ 3000 by omega) (by decide)
    · intro i hi C hC
      have hi := List.mem_range.mp hi
      simp only [wS, sem, Sm.val, Sm.tst, Sm.arg, Sm.itr, boolOf, truthOf, gT, gTs, zipK, seqOf, lstOf, Co.sem, oInt, Bo.sem, oAdd, oSub, oMul, oDiv, oMod, Bf.sem, oLen, oAbs, oInt1, oGcd, oNeg, oIx, Mt.sem, List.getElem?_cons_zero, List.getElem?_cons_succ, List.set_cons_zero, List.set_cons_succ, setAll, frz_lst, frz_dct, tru_bl, tru_int, oEq_int, oEq_str, Bool.false_bne, Bool.true_bne, if_true, if_false, Bool.false_eq_true, reduceIte, Bool.not_true, Bool.not_false, List.cons.injEq, true_and, and_true, List.length_cons, List.length_nil, Option.some.injEq, exists_eq_left', wipeE, List.map_cons, List.map_nil, h0, spBin]
      have look : ∀ j : Nat, (hj : j < qs.length) → atT (qs.map rW) (j : Int) = some (rT (qs.getD j (0, 0)).1) ∧ Sz 3000 (qs.getD j (0, 0)).1 := fun j hj => by
        have e : qs.getD j (0, 0) = qs[j] := by rw [List.getD_eq_getElem?_getD, List.getElem?_eq_getElem hj]; rfl
        have m1 : qs[j] ∈ qs := List.getElem_mem hj
        refine ⟨?_, ?_⟩
        · rw [at_nat (by omega) (by rw [List.length_map]; omega)]
          simp only [Int.toNat_natCast, List.getElem_map, e]
          rfl
        · rw [e]
          have := le_wsum m1
          exact (sq _ m1).up (by omega)
      have l1 := look (2 * i) (by omega)
      have l2 := look (2 * i + 1) (by omega)
      have e1 : (0 : Int) + (i : Int) * 2 = ((2 * i : Nat) : Int) := by omega
      have e2 : (0 : Int) + (i : Int) * 2 + 1 = ((2 * i + 1 : Nat) : Int) := by omega
      rw [e2, e1]
      exact ⟨_, l1.1, _, l2.1, _, _, ⟨rfl, rfl⟩, l1.2, l2.2, hC⟩
    · intro _
      simp only [List.nil_append]
      refine ⟨?_, fun _ => ⟨(merge qs).length, by rw [hm, merge_len]; omega, trivial, merge qs, _, _, ⟨congrArg T.lst (merge_eq qs).symm, rfl, rfl⟩, merge_sz qs sq, (merge_w qs).trans ew, (merge_sum qs).trans es, rfl⟩⟩
      refine Nat.le_trans ?_ (show 6000 ≤ sizeLine by decide)
      simp only [List.length_map, List.length_range, List.length_drop]
      omega
  · simp only [hl, decide_false, wS, sem, Sm.val, Sm.tst, Sm.arg, Sm.itr, boolOf, truthOf, gT, gTs, zipK, seqOf, lstOf, Co.sem, oInt, Bo.sem, oAdd, oSub, oMul, oDiv, oMod, Bf.sem, oLen, oAbs, oInt1, oGcd, oNeg, oIx, Mt.sem, List.getElem?_cons_zero, List.getElem?_cons_succ, List.set_cons_zero, List.set_cons_succ, setAll, frz_lst, frz_dct, tru_bl, tru_int, oEq_int, oEq_str, Bool.false_bne, Bool.true_bne, if_true, if_false, Bool.false_eq_true, reduceIte, Bool.not_true, Bool.not_false, List.cons.injEq, true_and, and_true, List.length_cons, List.length_nil, Option.some.injEq, exists_eq_left']
    simp only [b_total_0, wS, sem, Sm.val, Sm.tst, Sm.arg, Sm.itr, boolOf, truthOf, gT, gTs, zipK, seqOf, lstOf, Co.sem, oInt, Bo.sem, oAdd, oSub, oMul, oDiv, oMod, Bf.sem, oLen, oAbs, oInt1, oGcd, oNeg, oIx, Mt.sem, List.getElem?_cons_zero, List.getElem?_cons_succ, List.set_cons_zero, List.set_cons_succ, setAll, frz_lst, frz_dct, tru_bl, tru_int, oEq_int, oEq_str, Bool.false_bne, Bool.true_bne, if_true, if_false, Bool.false_eq_true, reduceIte, Bool.not_true, Bool.not_false, List.cons.injEq, true_and, and_true, List.length_cons, List.length_nil, Option.some.injEq, exists_eq_left', hc]
    match qs, hl, es with
    | [], _, es =>
      show R (rT 0) S'
      rw [← es] at k
      exact k
    | [q], _, es =>
      show ∃ t, atT [rW q] 0 = some t ∧ R t S'
      refine ⟨rW q, rfl, ?_⟩
      rw [← es] at k
      simp only [List.map_cons, List.map_nil, sumR, Rat.add_zero] at k
      exact k
    | q1 :: q2 :: r, hl, _ => simp at hl; omega
end TP

set_option maxHeartbeats 4000000
namespace TP
open PySem PySem.Spec PyProof.Rows L2

/-! ### products of rows -/

def n_product : List Str := ["one", "other", "x", "y"]
abbrev b_product : Stm := (.cons (.ret (.call 0 (.cons (.frz (.lc [("x", 2), ("y", 3)] (.tup (.cons (.nm 2) (.cons (.nm 3) .nil))) (.iZ (.var 0) (.var 1)) (.call 1 (.cons (.var 2) (.cons (.var 3) .nil))))) .nil))) .nil)

def n_l_dot : List Str := ["_law_one", "_law_other", "_law_x", "_law_y"]
abbrev b_l_dot : Stm := (.cons (.ret (.call 0 (.cons (.frz (.lc [("_law_x", 2), ("_law_y", 3)] (.tup (.cons (.nm 2) (.cons (.nm 3) .nil))) (.iZ (.var 0) (.var 1)) (.call 1 (.cons (.var 2) (.cons (.var 3) .nil))))) .nil))) .nil)
def dotR (xs ys : List Rat) : Rat := sumR ((xs.zip ys).map fun p => p.1 * p.2)
def spDot : TSp := fun ts S R X => ∃ (xs ys : List Rat) (k : Nat), ts = [rowT xs, rowT ys] ∧ (∀ x ∈ xs, Sz k x) ∧ (∀ y ∈ ys, Sz k y) ∧ k ≤ 1400 ∧ (k + k + 1) * xs.length + 1 ≤ 3000 ∧ R (rT (dotR xs ys)) S
theorem wsum_const {α : Type} (f : α → Rat) (w : Nat) : ∀ l : List α, wsum (l.map fun a => (f a, w)) = (w + 1) * l.length
  | [] => rfl
  | a :: l => by
    show w + 1 + wsum (l.map fun a => (f a, w)) = _
    rw [wsum_const f w l, List.length_cons, Nat.mul_add]
    omega
theorem zip_sz {k : Nat} {xs ys : List Rat} (sx : ∀ x ∈ xs, Sz k x) (sy : ∀ y ∈ ys, Sz k y) : ∀ p ∈ xs.zip ys, Sz k p.1 ∧ Sz k p.2 := fun p hp => by
  obtain ⟨x, y⟩ := p
  obtain ⟨m1, m2⟩ := List.of_mem_zip hp
  exact ⟨sx x m1, sy y m2⟩
theorem w_product (G : Gx) (N : List Str) (hN : N.length = 4) {a b : Str} (h1 : G.fns[0]? = some (b, spTot)) (h0 : G.fns[1]? = some (a, spBin fun x y => x * y)) (ts : List T) (S : Sto) (R : RP) (X : XP) (h : spDot ts S R X) : ts.length = 2 ∧ wS b_product G (startE N ts) S { nx := fun _ S' => R .non S', rt := R, xx := fun _ => X } := by
  obtain ⟨xs, ys, kk, rfl, sx, sy, lk, ll, k⟩ := h
  refine ⟨rfl, ?_⟩
  unfold startE
  rw [hN]
  show wS b_product G [some (.tup (xs.map rT)), some (.tup (ys.map rT)), none, none] S _
  have sz := zip_sz sx sy
  have lz : (xs.zip ys).length ≤ xs.length := by rw [List.length_zip]; omega
  have lx : xs.length ≤ 3000 := by
    have := Nat.le_mul_of_pos_left xs.length (show 0 < kk + kk + 1 by omega)
    omega
  simp only [b_product, wS, sem, Sm.val, Sm.tst, Sm.arg, Sm.itr, boolOf, truthOf, gT, gTs, zipK, seqOf, lstOf, Co.sem, oInt, Bo.sem, oAdd, oSub, oMul, oDiv, oMod, Bf.sem, oLen, oAbs, oInt1, oGcd, oNeg, oIx, Mt.sem, List.getElem?_cons_zero, List.getElem?_cons_succ, List.set_cons_zero, List.set_cons_succ, setAll, frz_lst, frz_dct, tru_bl, tru_int, oEq_int, oEq_str, Bool.false_bne, Bool.true_bne, if_true, if_false, Bool.false_eq_true, reduceIte, Bool.not_true, Bool.not_false, List.cons.injEq, true_and, and_true, List.length_cons, List.length_nil, Option.some.injEq, exists_eq_left', h1, zip_rows]
  refine wLc_of (fun p : Rat × Rat => .tup [rT p.1, rT p.2]) (fun p => rT (p.1 * p.2)) trivial ?_ ?_ ?_
  · simp only [List.length_nil]
    exact Nat.le_trans (show _ ≤ 3000 by omega) (by decide)
  · intro p hp C hC
    simp only [wS, sem, Sm.val, Sm.tst, Sm.arg, Sm.itr, boolOf, truthOf, gT, gTs, zipK, seqOf, lstOf, Co.sem, oInt, Bo.sem, oAdd, oSub, oMul, oDiv, oMod, Bf.sem, oLen, oAbs, oInt1, oGcd, oNeg, oIx, Mt.sem, List.getElem?_cons_zero, List.getElem?_cons_succ, List.set_cons_zero, List.set_cons_succ, setAll, frz_lst, frz_dct, tru_bl, tru_int, oEq_int, oEq_str, Bool.false_bne, Bool.true_bne, if_true, if_false, Bool.false_eq_true, reduceIte, Bool.not_true, Bool.not_false, List.cons.injEq, true_and, and_true, List.length_cons, List.length_nil, Option.some.injEq, exists_eq_left', wipeE, List.map_cons, List.map_nil, h0, spBin]
    exact ⟨p.1, p.2, ⟨rfl, rfl⟩, (sz p hp).1.up (by omega), (sz p hp).2.up (by omega), hC⟩
  · intro _
    simp only [List.nil_append, spTot]
    refine ⟨(xs.zip ys).map fun p => (p.1 * p.2, kk + kk), by rw [List.map_map]; rfl, fun q hq => ?_, ?_, ?_⟩
    · obtain ⟨p, hp, rfl⟩ := List.mem_map.mp hq
      exact sz_mul (sz p hp).1 (sz p hp).2
    · rw [wsum_const (fun p : Rat × Rat => p.1 * p.2) (kk + kk)]
      have := Nat.mul_le_mul_left (kk + kk + 1) lz
      omega
    · rw [List.map_map]
      exact k
theorem w_ldot (G : Gx) (N : List Str) (hN : N.length = 4) {a b : Str} (h1 : G.fns[0]? = some (b, spAll)) (h0 : G.fns[1]? = some (a, spBin fun x y => x * y)) (ts : List T) (S : Sto) (R : RP) (X : XP) (h : spDot ts S R X) : ts.length = 2 ∧ wS b_l_dot G (startE N ts) S { nx := fun _ S' => R .non S', rt := R, xx := fun _ => X } := by
  obtain ⟨xs, ys, kk, rfl, sx, sy, lk, ll, k⟩ := h
  refine ⟨rfl, ?_⟩
  unfold startE
  rw [hN]
  show wS b_l_dot G [some (.tup (xs.map rT)), some (.tup (ys.map rT)), none, none] S _
  have sz := zip_sz sx sy
  have lz : (xs.zip ys).length ≤ xs.length := by rw [List.length_zip]; omega
  have lx : xs.length ≤ 3000 := by
    have := Nat.le_mul_of_pos_left xs.length (show 0 < kk + kk + 1 by omega)
    omega
  simp only [b_l_dot, wS, sem, Sm.val, Sm.tst, Sm.arg, Sm.itr, boolOf, truthOf, gT, gTs, zipK, seqOf, lstOf, Co.sem, oInt, Bo.sem, oAdd, oSub, oMul, oDiv, oMod, Bf.sem, oLen, oAbs, oInt1, oGcd, oNeg, oIx, Mt.sem, List.getElem?_cons_zero, List.getElem?_cons_succ, List.set_cons_zero, List.set_cons_succ, setAll, frz_lst, frz_dct, tru_bl, tru_int, oEq_int, oEq_str, Bool.false_bne, Bool.true_bne, if_true, if_false, Bool.false_eq_true, reduceIte, Bool.not_true, Bool.not_false, List.cons.injEq, true_and, and_true, List.length_cons, List.length_nil, Option.some.injEq, exists_eq_left', h1, zip_rows]
  refine wLc_of (fun p : Rat × Rat => .tup [rT p.1, rT p.2]) (fun p => rT (p.1 * p.2)) trivial ?_ ?_ ?_
  · simp only [List.length_nil]
    exact Nat.le_trans (show _ ≤ 3000 by omega) (by decide)
  · intro p hp C hC
    simp only [wS, sem, Sm.val, Sm.tst, Sm.arg, Sm.itr, boolOf, truthOf, gT, gTs, zipK, seqOf, lstOf, Co.sem, oInt, Bo.sem, oAdd, oSub, oMul, oDiv, oMod, Bf.sem, oLen, oAbs, oInt1, oGcd, oNeg, oIx, Mt.sem, List.getElem?_cons_zero, List.getElem?_cons_succ, List.set_cons_zero, List.set_cons_succ, setAll, frz_lst, frz_dct, tru_bl, tru_int, oEq_int, oEq_str, Bool.false_bne, Bool.true_bne, if_true, if_false, Bool.false_eq_true, reduceIte, Bool.not_true, Bool.not_false, List.cons.injEq, true_and, and_true, List.length_cons, List.length_nil, Option.some.injEq, exists_eq_left', wipeE, List.map_cons, List.map_nil, h0, spBin]
    exact ⟨p.1, p.2, ⟨rfl, rfl⟩, (sz p hp).1.up (by omega), (sz p hp).2.up (by omega), hC⟩
  · intro _
    simp only [List.nil_append, spAll]
    refine ⟨(xs.zip ys).map fun p => p.1 * p.2, kk + kk, by rw [List.map_map]; rfl, fun q hq => ?_, by omega, ?_, k⟩
    · obtain ⟨p, hp, rfl⟩ := List.mem_map.mp hq
      exact sz_mul (sz p hp).1 (sz p hp).2
    · rw [List.length_map]
      have := Nat.mul_le_mul_left (kk + kk + 1) lz
      omega
end TP

set_option maxHeartbeats 4000000
namespace TP
open PySem PySem.Spec PyProof.Rows L2

/-! ### trees that are compared as they are -/
def cmpT : Nat → T → Bool
  | _, .int _ => true
  | _, .non => true
  | _, .str x => PyData.strOk x
  | n + 1, .tup ts => ts.all (cmpT n)
  | n + 1, .lst ts => ts.all (cmpT n)
  | _, _ => false
theorem toDs_of {n : Nat} (ih : ∀ t, cmpT n t = true → ∃ d, toD t = some d ∧ d.canLay0 = true ∧ d.depth ≤ n) : ∀ ts : List T, ts.all (cmpT n) = true → ∃ ds, toDs ts = some ds ∧ PyData.canLayAll0 ds = true ∧ PyData.depthAll ds ≤ n
  | [], _ => ⟨[], rfl, rfl, Nat.zero_le _⟩
  | t :: ts, h => by
    simp only [List.all_cons, Bool.and_eq_true] at h
    obtain ⟨d, e1, e2, e3⟩ := ih t h.1
    obtain ⟨ds, f1, f2, f3⟩ := toDs_of ih ts h.2
    exact ⟨d :: ds, by simp [toDs, e1, f1], by simp [PyData.canLayAll0, e2, f2], by simp only [PyData.depthAll]; exact Nat.max_le.mpr ⟨e3, f3⟩⟩
theorem cmp_toD : ∀ (n : Nat) (t : T), cmpT n t = true → ∃ d, toD t = some d ∧ d.canLay0 = true ∧ d.depth ≤ n
  | n, .int i, _ => ⟨.int i, by cases n <;> rfl, rfl, Nat.zero_le _⟩
  | n, .non, _ => ⟨.none, by cases n <;> rfl, rfl, Nat.zero_le _⟩
  | n, .str x, h => ⟨.str x, by cases n <;> rfl, by cases n <;> exact h, Nat.zero_le _⟩
  | n + 1, .tup ts, h => by
    obtain ⟨ds, e1, e2, e3⟩ := toDs_of (cmp_toD n) ts h
    exact ⟨.tuple ds, by simp [toD, e1], e2, by simp only [PyData.depth]; omega⟩
  | n + 1, .lst ts, h => by
    obtain ⟨ds, e1, e2, e3⟩ := toDs_of (cmp_toD n) ts h
    exact ⟨.list ds, by simp [toD, e1], e2, by simp only [PyData.depth]; omega⟩
  | 0, .tup _, h => by cases h
  | 0, .lst _, h => by cases h
  | 0, .bl _, h => by cases h
  | n + 1, .bl _, h => by cases h
  | 0, .scr _, h => by cases h
  | n + 1, .scr _, h => by cases h
  | 0, .dct _ _, h => by cases h
  | n + 1, .dct _ _, h => by cases h
  | 0, .ref _, h => by cases h
  | n + 1, .ref _, h => by cases h
  | 0, .ty _, h => by cases h
  | n + 1, .ty _, h => by cases h
mutual
theorem toD_inj : ∀ (a b : T) (n : Nat) (d : PyData), cmpT n a = true → cmpT n b = true → toD a = some d → toD b = some d → a = b
  | .int i, b, n, d, ha, hb, ea, eb => by
    simp only [toD, Option.some.injEq] at ea; subst ea
    cases b <;> cases n <;> simp_all [toD, cmpT]
  | .non, b, n, d, ha, hb, ea, eb => by
    simp only [toD, Option.some.injEq] at ea; subst ea
    cases b <;> cases n <;> simp_all [toD, cmpT]
  | .str x, b, n, d, ha, hb, ea, eb => by
    simp only [toD, Option.some.injEq] at ea; subst ea
    cases b <;> cases n <;> simp_all [toD, cmpT]
  | .tup ts, b, 0, d, ha, hb, ea, eb => by cases ha
  | .tup ts, b, n + 1, d, ha, hb, ea, eb => by
    simp only [toD, Option.map_eq_some_iff] at ea
    obtain ⟨ds, e1, rfl⟩ := ea
    cases b
    case tup us =>
      simp only [toD, Option.map_eq_some_iff] at eb
      obtain ⟨es, f1, f2⟩ := eb
      cases f2
      rw [toDs_inj ts us n ds ha hb e1 f1]
    case dct => cases hb
    case scr => cases hb
    all_goals simp [toD] at eb
  | .lst ts, b, 0, d, ha, hb, ea, eb => by cases ha
  | .lst ts, b, n + 1, d, ha, hb, ea, eb => by
    simp only [toD, Option.map_eq_some_iff] at ea
    obtain ⟨ds, e1, rfl⟩ := ea
    cases b
    case lst us =>
      simp only [toD, Option.map_eq_some_iff] at eb
      obtain ⟨es, f1, f2⟩ := eb
      cases f2
      rw [toDs_inj ts us n ds ha hb e1 f1]
    case dct => cases hb
    case scr us => cases hb
    all_goals simp [toD] at eb
  | .bl _, b, n, d, ha, hb, ea, eb => by cases n <;> cases ha
  | .scr _, b, n, d, ha, hb, ea, eb => by cases n <;> cases ha
  | .dct _ _, b, n, d, ha, hb, ea, eb => by cases n <;> cases ha
  | .ref _, b, n, d, ha, hb, ea, eb => by cases n <;> cases ha
  | .ty _, b, n, d, ha, hb, ea, eb => by cases n <;> cases ha
theorem toDs_inj : ∀ (as bs : List T) (n : Nat) (ds : List PyData), as.all (cmpT n) = true → bs.all (cmpT n) = true → toDs as = some ds → toDs bs = some ds → as = bs
  | [], bs, n, ds, _, _, ea, eb => by
    simp only [toDs, Option.some.injEq] at ea; subst ea
    cases bs with
    | nil => rfl
    | cons b bs => simp only [toDs] at eb; split at eb <;> simp at eb
  | a :: as, bs, n, ds, ha, hb, ea, eb => by
    simp only [toDs] at ea
    split at ea
    · rename_i d ds' e1 e2
      cases ea
      cases bs with
      | nil => simp [toDs] at eb
      | cons b bs =>
        simp only [toDs] at eb
        split at eb
        · rename_i d2 ds2 f1 f2
          cases eb
          simp only [List.all_cons, Bool.and_eq_true] at ha hb
          rw [toD_inj a b n d ha.1 hb.1 e1 f1, toDs_inj as bs n ds' ha.2 hb.2 e2 f2]
        · cases eb
    · cases ea
end
mutual
theorem eqv_noB : ∀ d e : PyData, d.canLay0 = true → e.canLay0 = true → PyData.eqv d e = true → (∀ b, d ≠ .bool b) → (∀ b, e ≠ .bool b) → True
  | _, _, _, _, _, _, _ => trivial
end
/-- no True, no False, at any depth -/
def noBl : PyData → Bool := fun d => noB d
where
  noB : PyData → Bool
  | .bool _ => false
  | .list xs | .tuple xs => noBs xs
  | _ => true
  noBs : List PyData → Bool
  | [] => true
  | x :: xs => noB x && noBs xs
mutual
theorem eqv_iff : ∀ d e : PyData, noBl.noB d = true → noBl.noB e = true → d.canLay0 = true → (PyData.eqv d e = true ↔ d = e)
  | .none, e, _, he, _ => by cases e <;> simp_all [PyData.eqv, noBl.noB]
  | .bool b, e, h, _, _ => by cases h
  | .int i, e, _, he, _ => by cases e <;> simp_all [PyData.eqv, noBl.noB]
  | .str x, e, _, he, _ => by cases e <;> simp_all [PyData.eqv, noBl.noB]
  | .list xs, e, h, he, hl => by
    cases e <;> simp only [PyData.eqv, reduceCtorEq, Bool.false_eq_true, iff_self]
    case list ys => rw [eqvAll_iff xs ys h he hl]; simp
  | .tuple xs, e, h, he, hl => by
    cases e <;> simp only [PyData.eqv, reduceCtorEq, Bool.false_eq_true, iff_self]
    case tuple ys => rw [eqvAll_iff xs ys h he hl]; simp
  | .dict kvs, e, _, _, hl => by simp [PyData.canLay0] at hl
theorem eqvAll_iff : ∀ xs ys : List PyData, noBl.noBs xs = true → noBl.noBs ys = true → PyData.canLayAll0 xs = true → (PyData.eqvAll xs ys = true ↔ xs = ys)
  | [], [], _, _, _ => by simp [PyData.eqvAll]
  | [], _ :: _, _, _, _ => by simp [PyData.eqvAll]
  | _ :: _, [], _, _, _ => by simp [PyData.eqvAll]
  | x :: xs, y :: ys, h, he, hl => by
    simp only [noBl.noBs, PyData.canLayAll0, Bool.and_eq_true] at h he hl
    simp only [PyData.eqvAll, Bool.and_eq_true, eqv_iff x y h.1 he.1 hl.1, eqvAll_iff xs ys h.2 he.2 hl.2, List.cons.injEq]
end
mutual
theorem noB_cmp : ∀ (t : T) (n : Nat) (d : PyData), cmpT n t = true → toD t = some d → noBl.noB d = true
  | .int _, n, d, _, e => by simp only [toD, Option.some.injEq] at e; subst e; rfl
  | .non, n, d, _, e => by simp only [toD, Option.some.injEq] at e; subst e; rfl
  | .str _, n, d, _, e => by simp only [toD, Option.some.injEq] at e; subst e; rfl
  | .tup ts, 0, d, h, e => by cases h
  | .tup ts, n + 1, d, h, e => by
    simp only [toD, Option.map_eq_some_iff] at e
    obtain ⟨ds, e1, rfl⟩ := e
    exact noBs_cmp ts n ds h e1
  | .lst ts, 0, d, h, e => by cases h
  | .lst ts, n + 1, d, h, e => by
    simp only [toD, Option.map_eq_some_iff] at e
    obtain ⟨ds, e1, rfl⟩ := e
    exact noBs_cmp ts n ds h e1
  | .bl _, n, d, h, e => by cases n <;> cases h
  | .scr _, n, d, h, e => by cases n <;> cases h
  | .dct _ _, n, d, h, e => by cases n <;> cases h
  | .ref _, n, d, h, e => by cases n <;> cases h
  | .ty _, n, d, h, e => by cases n <;> cases h
theorem noBs_cmp : ∀ (ts : List T) (n : Nat) (ds : List PyData), ts.all (cmpT n) = true → toDs ts = some ds → noBl.noBs ds = true
  | [], n, ds, _, e => by simp only [toDs, Option.some.injEq] at e; subst e; rfl
  | t :: ts, n, ds, h, e => by
    simp only [toDs] at e
    split at e
    · rename_i d ds' e1 e2
      cases e
      simp only [List.all_cons, Bool.and_eq_true] at h
      simp only [noBl.noBs, noB_cmp t n d h.1 e1, noBs_cmp ts n ds' h.2 e2, Bool.and_self]
    · cases e
end
theorem oEq_gen {n : Bool} {a b : T} {S : Sto} {R : RP} {m : Nat} (hm : m ≤ 60) (ha : cmpT m a = true) (hb : cmpT m b = true) {k : Bool} (hk : k = true ↔ a = b) (q : R (.bl (n ^^ k)) S) : oEq n a b S R := by
  obtain ⟨d, e1, e2, e3⟩ := cmp_toD m a ha
  obtain ⟨e, f1, f2, f3⟩ := cmp_toD m b hb
  have key : PyData.eqv d e = k := by
    have h1 := eqv_iff d e (noB_cmp a m d ha e1) (noB_cmp b m e hb f1) e2
    rw [Bool.eq_iff_iff, h1, hk]
    constructor
    · intro h; subst h; exact toD_inj a b m d ha hb e1 f1
    · intro h; subst h; rw [e1] at f1; exact Option.some.inj f1
  have pa : topD S a = some d := by rw [topD_plain, e1]; cases a <;> first | rfl | (cases m <;> cases ha)
  have pb : topD S b = some e := by rw [topD_plain, f1]; cases b <;> first | rfl | (cases m <;> cases hb)
  have sa : SeqAt.shaped d = true := by unfold SeqAt.shaped; rw [e2, Bool.true_and]; exact decide_eq_true (by omega)
  have sb : SeqAt.shaped e = true := by unfold SeqAt.shaped; rw [f2, Bool.true_and]; exact decide_eq_true (by omega)
  unfold oEq
  split
  · rename_i i j
    have : k = decide (i = j) := by rw [Bool.eq_iff_iff, hk, decide_eq_true_eq, T.int.injEq]
    rw [← this]; exact q
  · rename_i i j
    have : k = decide (i = j) := by rw [Bool.eq_iff_iff, hk, decide_eq_true_eq, T.str.injEq]
    rw [← this]; exact q
  · cases m <;> cases ha
  · rename_i us
    have : k = us.isEmpty := by
      rw [Bool.eq_iff_iff, hk]
      cases us <;> simp
    rw [← this]; exact q
  · exact ⟨d, e, pa, pb, sa, sb, by rw [key]; exact q⟩
theorem oEq_yes {n : Bool} {a : T} {S : Sto} {R : RP} (m : Nat) (hm : m ≤ 60) (ha : cmpT m a = true) (q : R (.bl !n) S) : oEq n a a S R := oEq_gen hm ha ha (k := true) (by simp) (by simpa using q)
theorem oEq_no {n : Bool} {a b : T} {S : Sto} {R : RP} (m : Nat) (hm : m ≤ 60) (ha : cmpT m a = true) (hb : cmpT m b = true) (ne : a ≠ b) (q : R (.bl n) S) : oEq n a b S R := oEq_gen hm ha hb (k := false) (by simp [ne]) (by simpa using q)
theorem cmp_rT (q : Rat) (n : Nat) : cmpT (n + 1) (rT q) = true := by unfold rT pr; simp [cmpT]
theorem cmp_row (qs : List Rat) (n : Nat) : cmpT (n + 2) (rowT qs) = true := by
  show (qs.map rT).all (cmpT (n + 1)) = true
  rw [List.all_map]
  exact List.all_eq_true.mpr fun q _ => cmp_rT q n
theorem rT_inj {a b : Rat} (h : rT a = rT b) : a = b := by
  unfold rT pr at h
  simp only [T.tup.injEq, List.cons.injEq, T.int.injEq, and_true] at h
  exact Rat.ext h.1 (by exact_mod_cast h.2)
theorem rT_num {n d : Int} {q : Rat} (h : pr n d = rT q) : n = q.num ∧ d = q.den := by
  unfold rT pr at h
  simp only [T.tup.injEq, List.cons.injEq, T.int.injEq, and_true] at h
  exact h
theorem rowT_inj : ∀ {a b : List Rat}, rowT a = rowT b → a = b := by
  intro a b h
  unfold rowT at h
  simp only [T.tup.injEq] at h
  induction a generalizing b with
  | nil => cases b with
    | nil => rfl
    | cons y ys => cases h
  | cons x xs ih => cases b with
    | nil => cases h
    | cons y ys =>
      simp only [List.map_cons, List.cons.injEq] at h
      rw [rT_inj h.1, ih h.2]
theorem oEq_rT {n : Bool} {a b : Rat} {S : Sto} {R : RP} (q : R (.bl (n ^^ decide (a = b))) S) : oEq n (rT a) (rT b) S R :=
  oEq_gen (m := 1) (by omega) (cmp_rT a 0) (cmp_rT b 0) (by rw [decide_eq_true_eq]; exact ⟨fun h => by rw [h], rT_inj⟩) q
theorem oEq_row {n : Bool} {a b : List Rat} {S : Sto} {R : RP} (q : R (.bl (n ^^ decide (a = b))) S) : oEq n (rowT a) (rowT b) S R :=
  oEq_gen (m := 2) (by omega) (cmp_row a 0) (cmp_row b 0) (by rw [decide_eq_true_eq]; exact ⟨fun h => by rw [h], rowT_inj⟩) q
end TP

set_option maxHeartbeats 4000000
namespace TP
open PySem PySem.Spec PyProof.Rows L2

/-! ### rows judged, sizes, drawn rows -/

def n_is_row : List Str := ["value", "many", "x"]
abbrev b_is_row : Stm := (.cons (.ret (.and (.isi (.var 0) .tuple) (.and (.cmp .eq (.blt .len (.cons (.var 0) .nil)) (.var 1)) (.one (.blt .all (.cons (.frz (.lc [("x", 2)] (.nm 2) (.iA (.var 0)) (.call 0 (.cons (.var 2) .nil)))) .nil)))))) .nil)

def n_nought : List Str := ["many"]
abbrev b_nought : Stm := (.cons (.ret (.bin .mul (.tup (.cons (.con 0) .nil)) (.var 0))) .nil)

def n_sizes : List Str := ["row", "x"]
abbrev b_sizes : Stm := (.cons (.ret (.call 0 (.cons (.frz (.lc [("x", 1)] (.nm 1) (.iA (.var 0)) (.call 1 (.cons (.var 1) .nil)))) .nil))) .nil)
def b_l_draw_fraction_0 : Stm := .cons (.ret (.call 0 (.cons (.bin .sub (.call 1 (.cons (.var 0) (.cons (.bin .add (.bin .mul (.bin .mul (.int 2) (.var 1)) (.var 2)) (.int 1)) .nil))) (.bin .mul (.var 1) (.var 2))) (.cons (.var 2) .nil)))) .nil
def b_l_draw_fraction_1 : Stm := .cons (.asg (.nm 2) (.ix (.frz (.lst (.cons (.int 1) (.cons (.int 1) (.cons (.int 1) (.cons (.int 2) (.cons (.int 3) .nil))))))) (.call 1 (.cons (.var 0) (.cons (.int 5) .nil))))) b_l_draw_fraction_0
def n_l_draw_fraction : List Str := ["_law_source", "_law_wide", "_law_d"]
abbrev b_l_draw_fraction : Stm := b_l_draw_fraction_1

def n_l_draw_row : List Str := ["_law_source", "_law_many", "_law_wide", "_law_k"]
abbrev b_l_draw_row : Stm := (.cons (.ret (.blt .tuple (.cons (.frz (.lc [("_law_k", 3)] (.nm 3) (.iR1 (.var 1)) (.call 0 (.cons (.var 0) (.cons (.var 2) .nil))))) .nil))) .nil)
def isRow (t : T) (m : Int) : Bool := match t with
  | .tup us => decide ((us.length : Int) = m) && us.all isFr
  | _ => false
def spRow : TSp := fun ts S R X => ∃ t m, ts = [t, .int m] ∧ deepB t = true ∧ m ≤ 100 ∧ R (.bl (isRow t m)) S
theorem kid_of {t : T} (h : kidB t = true) : plain t = true ∧ ∀ us, t = .tup us → us.all plain = true := by
  unfold kidB at h
  rw [Bool.and_eq_true] at h
  refine ⟨h.1, fun us e => ?_⟩
  subst e
  exact h.2
theorem w_row (G : Gx) (N : List Str) (hN : N.length = 3) {x0 : Str} (h0 : G.fns[0]? = some (x0, spIsFr)) (ts : List T) (S : Sto) (R : RP) (X : XP) (h : spRow ts S R X) : ts.length = 2 ∧ wS b_is_row G (startE N ts) S { nx := fun _ S' => R .non S', rt := R, xx := fun _ => X } := by
  obtain ⟨t, m, rfl, hd, hm, k⟩ := h
  refine ⟨rfl, ?_⟩
  unfold startE
  rw [hN]
  show wS b_is_row G [some t, some (.int m), none] S _
  unfold deepB at hd
  rw [Bool.and_eq_true] at hd
  obtain ⟨hp, hd⟩ := hd
  simp only [b_is_row, wS, sem, Sm.val, Sm.tst, Sm.arg, Sm.itr, boolOf, truthOf, gT, gTs, zipK, seqOf, lstOf, Co.sem, oInt, Bo.sem, oAdd, oSub, oMul, oDiv, oMod, Bf.sem, oLen, oAbs, oInt1, oGcd, oNeg, oIx, Mt.sem, List.getElem?_cons_zero, List.getElem?_cons_succ, List.set_cons_zero, List.set_cons_succ, setAll, frz_lst, frz_dct, tru_bl, tru_int, oEq_int, oEq_str, Bool.false_bne, Bool.true_bne, if_true, if_false, Bool.false_eq_true, reduceIte, Bool.not_true, Bool.not_false, List.cons.injEq, true_and, and_true, List.length_cons, List.length_nil, Option.some.injEq, exists_eq_left', oIsi_plain hp, tup_kind hp]
  cases t with
  | tup us =>
    simp only [isTup, wS, sem, Sm.val, Sm.tst, Sm.arg, Sm.itr, boolOf, truthOf, gT, gTs, zipK, seqOf, lstOf, Co.sem, oInt, Bo.sem, oAdd, oSub, oMul, oDiv, oMod, Bf.sem, oLen, oAbs, oInt1, oGcd, oNeg, oIx, Mt.sem, List.getElem?_cons_zero, List.getElem?_cons_succ, List.set_cons_zero, List.set_cons_succ, setAll, frz_lst, frz_dct, tru_bl, tru_int, oEq_int, oEq_str, Bool.false_bne, Bool.true_bne, if_true, if_false, Bool.false_eq_true, reduceIte, Bool.not_true, Bool.not_false, List.cons.injEq, true_and, and_true, List.length_cons, List.length_nil, Option.some.injEq, exists_eq_left']
    by_cases hl : (us.length : Int) = m
    · simp only [hl, decide_true, wS, sem, Sm.val, Sm.tst, Sm.arg, Sm.itr, boolOf, truthOf, gT, gTs, zipK, seqOf, lstOf, Co.sem, oInt, Bo.sem, oAdd, oSub, oMul, oDiv, oMod, Bf.sem, oLen, oAbs, oInt1, oGcd, oNeg, oIx, Mt.sem, List.getElem?_cons_zero, List.getElem?_cons_succ, List.set_cons_zero, List.set_cons_succ, setAll, frz_lst, frz_dct, tru_bl, tru_int, oEq_int, oEq_str, Bool.false_bne, Bool.true_bne, if_true, if_false, Bool.false_eq_true, reduceIte, Bool.not_true, Bool.not_false, List.cons.injEq, true_and, and_true, List.length_cons, List.length_nil, Option.some.injEq, exists_eq_left']
      refine wLc_map (fun t => .bl (isFr t)) trivial (by simp; exact Nat.le_trans (show us.length ≤ 100 by omega) (by decide)) ?_ ?_
      · intro u hu C hC
        obtain ⟨k1, k2⟩ := kid_of (List.all_eq_true.mp hd u hu)
        simp only [wS, sem, Sm.val, Sm.tst, Sm.arg, Sm.itr, boolOf, truthOf, gT, gTs, zipK, seqOf, lstOf, Co.sem, oInt, Bo.sem, oAdd, oSub, oMul, oDiv, oMod, Bf.sem, oLen, oAbs, oInt1, oGcd, oNeg, oIx, Mt.sem, List.getElem?_cons_zero, List.getElem?_cons_succ, List.set_cons_zero, List.set_cons_succ, setAll, frz_lst, frz_dct, tru_bl, tru_int, oEq_int, oEq_str, Bool.false_bne, Bool.true_bne, if_true, if_false, Bool.false_eq_true, reduceIte, Bool.not_true, Bool.not_false, List.cons.injEq, true_and, and_true, List.length_cons, List.length_nil, Option.some.injEq, exists_eq_left', wipeE, List.map_cons, List.map_nil, h0, spIsFr]
        exact ⟨k1, k2, hC⟩
      · intro _
        simp only [List.nil_append, oAll, lstOf]
        refine ⟨us.map isFr, by rw [List.map_map]; rfl, ?_⟩
        simp only [isRow, hl, decide_true, Bool.true_and] at k
        have e : (us.map isFr).all id = us.all isFr := by rw [List.all_map]; rfl
        simp only [e, Bool.false_eq_true, if_false]
        exact k
    · simp only [isRow, hl, decide_false, Bool.false_and, wS, sem, Sm.val, Sm.tst, Sm.arg, Sm.itr, boolOf, truthOf, gT, gTs, zipK, seqOf, lstOf, Co.sem, oInt, Bo.sem, oAdd, oSub, oMul, oDiv, oMod, Bf.sem, oLen, oAbs, oInt1, oGcd, oNeg, oIx, Mt.sem, List.getElem?_cons_zero, List.getElem?_cons_succ, List.set_cons_zero, List.set_cons_succ, setAll, frz_lst, frz_dct, tru_bl, tru_int, oEq_int, oEq_str, Bool.false_bne, Bool.true_bne, if_true, if_false, Bool.false_eq_true, reduceIte, Bool.not_true, Bool.not_false, List.cons.injEq, true_and, and_true, List.length_cons, List.length_nil, Option.some.injEq, exists_eq_left'] at k ⊢
      exact k
  | _ => exact k
theorem isFr_rT (q : Rat) : isFr (rT q) = true := by
  obtain ⟨a, b⟩ := nf_rat q
  show (decide (0 < (q.den : Int)) && decide (Int.gcd q.num q.den = 1)) = true
  simp only [a, b, decide_true, Bool.and_self]
theorem kid_rT (q : Rat) : kidB (rT q) = true := rfl
theorem deep_row (qs : List Rat) : deepB (rowT qs) = true := by
  show (true && (qs.map rT).all kidB) = true
  rw [Bool.true_and, List.all_map]
  exact List.all_eq_true.mpr fun q _ => kid_rT q
theorem isRow_row (qs : List Rat) (m : Int) : isRow (rowT qs) m = decide ((qs.length : Int) = m) := by
  show (decide (((qs.map rT).length : Int) = m) && (qs.map rT).all isFr) = _
  have e : (qs.map rT).all isFr = true := by
    rw [List.all_map]
    exact List.all_eq_true.mpr fun q _ => isFr_rT q
  rw [List.length_map, e, Bool.and_true]
/-- rows of which it is asked whether they are rows -/
theorem row_R {qs : List Rat} {m : Int} {S : Sto} {R : RP} {X : XP} (hm : m ≤ 100) (k : R (.bl (decide ((qs.length : Int) = m))) S) : spRow [rowT qs, .int m] S R X := ⟨_, m, rfl, deep_row qs, hm, by rw [isRow_row]; exact k⟩
def absR (q : Rat) : Rat := Rat.divInt (q.num.natAbs : Int) q.den
theorem abs_nf (q : Rat) : NF (q.num.natAbs : Int) q.den := ⟨(nf_rat q).1, by
  have := (nf_rat q).2
  show Nat.gcd _ _ = 1
  rw [Int.natAbs_natCast]
  exact this⟩
theorem abs_rT (q : Rat) : pr (q.num.natAbs : Int) q.den = rT (absR q) := rT_nf (abs_nf q)
theorem sz_abs {k : Nat} {q : Rat} (h : Sz k q) : Sz k (absR q) := by
  obtain ⟨e1, e2⟩ := rT_num (abs_rT q)
  refine ⟨?_, ?_⟩
  · rw [← e1]; show (((q.num.natAbs : Nat) : Int)).natAbs < _; rw [Int.natAbs_natCast]; exact h.1
  · rw [← e2]; exact h.2
theorem abs_eq (q : Rat) : absR q = if q < 0 then -q else q := by
  have h0 : q < 0 ↔ q.num < 0 := by
    rw [← Rat.not_le, ← Rat.num_nonneg]
    omega
  unfold absR
  by_cases h : q.num < 0
  · rw [if_pos (h0.mpr h)]
    have e : ((q.num.natAbs : Nat) : Int) = -q.num := by omega
    rw [e, ← Rat.neg_num, ← Rat.neg_den, Rat.num_divInt_den]
  · rw [if_neg fun z => h (h0.mp z)]
    have e : ((q.num.natAbs : Nat) : Int) = q.num := by omega
    rw [e, Rat.num_divInt_den]
def spSizeR : TSp := fun ts S R X => ∃ q : Rat, ts = [rT q] ∧ R (rT (absR q)) S
theorem size_R {ts : List T} {S : Sto} {R : RP} {X : XP} (h : spSizeR ts S R X) : spSize ts S R X := by
  obtain ⟨q, rfl, k⟩ := h
  exact ⟨_, _, rfl, by rw [abs_rT]; exact k⟩
theorem w_lassize (G : Gx) (N : List Str) (hN : N.length = 1)  (ts : List T) (S : Sto) (R : RP) (X : XP) (h : spSizeR ts S R X) : ts.length = 1 ∧ wS b_l_as_size G (startE N ts) S { nx := fun _ S' => R .non S', rt := R, xx := fun _ => X } := by
  obtain ⟨q, rfl, k⟩ := h
  refine ⟨rfl, ?_⟩
  unfold startE
  rw [hN]
  show wS b_l_as_size G [some (.tup [.int q.num, .int q.den])] S _
  simp only [b_l_as_size, wS, sem, Sm.val, Sm.tst, Sm.arg, Sm.itr, boolOf, truthOf, gT, gTs, zipK, seqOf, lstOf, Co.sem, oInt, Bo.sem, oAdd, oSub, oMul, oDiv, oMod, Bf.sem, oLen, oAbs, oInt1, oGcd, oNeg, oIx, Mt.sem, List.getElem?_cons_zero, List.getElem?_cons_succ, List.set_cons_zero, List.set_cons_succ, setAll, frz_lst, frz_dct, tru_bl, tru_int, oEq_int, oEq_str, Bool.false_bne, Bool.true_bne, if_true, if_false, Bool.false_eq_true, reduceIte, Bool.not_true, Bool.not_false, List.cons.injEq, true_and, and_true, List.length_cons, List.length_nil, Option.some.injEq, exists_eq_left', at_one, at_nought]
  have e : (if q.num < 0 then -q.num else q.num) = (q.num.natAbs : Int) := by split <;> omega
  rw [e]
  refine ⟨by decide, ?_⟩
  have := abs_rT q
  unfold pr at this
  rw [this]
  exact k
def spSizes : TSp := fun ts S R X => ∃ (xs : List Rat) (k : Nat), ts = [rowT xs] ∧ (∀ x ∈ xs, Sz k x) ∧ k ≤ 3000 ∧ (k + 1) * xs.length + 1 ≤ 3000 ∧ R (rT (sumR (xs.map absR))) S
theorem wLen {k n : Nat} (h : (k + 1) * n + 1 ≤ 3000) : n ≤ 3000 := by
  have := Nat.le_mul_of_pos_left n (show 0 < k + 1 by omega)
  omega
theorem w_sizes (G : Gx) (N : List Str) (hN : N.length = 2) {x0 : Str} (h0 : G.fns[0]? = some (x0, spTot)) {x1 : Str} (h1 : G.fns[1]? = some (x1, spSizeR)) (ts : List T) (S : Sto) (R : RP) (X : XP) (h : spSizes ts S R X) : ts.length = 1 ∧ wS b_sizes G (startE N ts) S { nx := fun _ S' => R .non S', rt := R, xx := fun _ => X } := by
  obtain ⟨xs, kk, rfl, sx, lk, ll, k⟩ := h
  refine ⟨rfl, ?_⟩
  unfold startE
  rw [hN]
  show wS b_sizes G [some (.tup (xs.map rT)), none] S _
  have lx := wLen ll
  simp only [b_sizes, wS, sem, Sm.val, Sm.tst, Sm.arg, Sm.itr, boolOf, truthOf, gT, gTs, zipK, seqOf, lstOf, Co.sem, oInt, Bo.sem, oAdd, oSub, oMul, oDiv, oMod, Bf.sem, oLen, oAbs, oInt1, oGcd, oNeg, oIx, Mt.sem, List.getElem?_cons_zero, List.getElem?_cons_succ, List.set_cons_zero, List.set_cons_succ, setAll, frz_lst, frz_dct, tru_bl, tru_int, oEq_int, oEq_str, Bool.false_bne, Bool.true_bne, if_true, if_false, Bool.false_eq_true, reduceIte, Bool.not_true, Bool.not_false, List.cons.injEq, true_and, and_true, List.length_cons, List.length_nil, Option.some.injEq, exists_eq_left', h0]
  refine wLc_of rT (fun x => rT (absR x)) trivial ?_ ?_ ?_
  · simp only [List.length_nil]
    exact Nat.le_trans (show _ ≤ 3000 by omega) (by decide)
  · intro x hx C hC
    simp only [wS, sem, Sm.val, Sm.tst, Sm.arg, Sm.itr, boolOf, truthOf, gT, gTs, zipK, seqOf, lstOf, Co.sem, oInt, Bo.sem, oAdd, oSub, oMul, oDiv, oMod, Bf.sem, oLen, oAbs, oInt1, oGcd, oNeg, oIx, Mt.sem, List.getElem?_cons_zero, List.getElem?_cons_succ, List.set_cons_zero, List.set_cons_succ, setAll, frz_lst, frz_dct, tru_bl, tru_int, oEq_int, oEq_str, Bool.false_bne, Bool.true_bne, if_true, if_false, Bool.false_eq_true, reduceIte, Bool.not_true, Bool.not_false, List.cons.injEq, true_and, and_true, List.length_cons, List.length_nil, Option.some.injEq, exists_eq_left', wipeE, List.map_cons, List.map_nil, h1, spSizeR]
    exact ⟨x, rfl, hC⟩
  · intro _
    simp only [List.nil_append, spTot]
    refine ⟨xs.map fun x => (absR x, kk), by rw [List.map_map]; rfl, fun q hq => ?_, ?_, ?_⟩
    · obtain ⟨p, hp, rfl⟩ := List.mem_map.mp hq
      exact sz_abs (sx p hp)
    · rw [wsum_const absR kk]; omega
    · rw [List.map_map]; exact k
/-- so many noughts -/
def spNought : TSp := fun ts S R X => ∃ n : Nat, ts = [.int n] ∧ 1 ≤ n ∧ n ≤ 1000 ∧ R (rowT (List.replicate n 0)) S
theorem rep_one {α : Type} (a : α) : ∀ n : Nat, (List.replicate n [a]).flatten = List.replicate n a
  | 0 => rfl
  | n + 1 => by rw [List.replicate_succ, List.flatten_cons, rep_one a n]; rfl
theorem rep_row (n : Nat) : T.tup (List.replicate n (rT 0)) = rowT (List.replicate n 0) := by unfold rowT; rw [List.map_replicate]
theorem mul_rep {t : T} {n : Nat} {S : Sto} {R : RP} (h1 : 1 ≤ n) (h2 : n ≤ 1000) (k : R (.tup (List.replicate n t)) S) : oMul (.tup [t]) (.int n) S R := by
  unfold oMul
  by_cases e : n = 1
  · subst e; exact .inl ⟨rfl, k⟩
  · refine .inr ⟨by simp, by omega, by omega, by simp, ?_⟩
    rw [Int.toNat_natCast, rep_one]
    exact k
theorem w_nought (G : Gx) (N : List Str) (hN : N.length = 1) {z0 : Str} (hc0 : G.cons[0]? = some (z0, rT 0)) (ts : List T) (S : Sto) (R : RP) (X : XP) (h : spNought ts S R X) : ts.length = 1 ∧ wS b_nought G (startE N ts) S { nx := fun _ S' => R .non S', rt := R, xx := fun _ => X } := by
  obtain ⟨n, rfl, n1, n2, k⟩ := h
  refine ⟨rfl, ?_⟩
  unfold startE
  rw [hN]
  show wS b_nought G [some (.int n)] S _
  simp only [b_nought, wS, sem, Sm.val, Sm.arg, hc0, List.getElem?_cons_zero, Bo.sem, List.length_cons, List.length_nil]
  refine ⟨by decide, mul_rep n1 n2 ?_⟩
  rw [rep_row]; exact k
/-! ### drawn rows -/
def Small (w : Nat) (q : Rat) : Prop := q.num.natAbs ≤ w ∧ q.den ≤ 3
theorem small_sz {w k : Nat} {q : Rat} (h : Small w q) (l : w < 2 ^ k) (l2 : 2 ≤ k) : Sz k q := ⟨Nat.lt_of_le_of_lt h.1 l, by
  show q.den < 2 ^ k
  exact Nat.lt_of_le_of_lt h.2 (Nat.lt_of_lt_of_le (show 3 < 2 ^ 2 by decide) (Nat.pow_le_pow_right (by omega) l2))⟩
theorem div_le {n d : Int} {a b : Nat} (h : d ≠ 0) (ha : n.natAbs ≤ a) (hb : d.natAbs ≤ b) : (Rat.divInt n d).num.natAbs ≤ a ∧ (Rat.divInt n d).den ≤ b := by
  have e := frT_rat (n := n) h
  unfold frT at e
  obtain ⟨e1, e2⟩ := rT_num e
  have b1 := fdiv_abs (un_dvd (n := n) (d := d)).1 (un_ne h)
  have b2 := fdiv_abs (un_dvd (n := n) (d := d)).2 (un_ne h)
  rw [e1] at b1
  rw [e2] at b2
  exact ⟨by omega, by omega⟩
def spDrawF : TSp := fun ts S R X => ∃ s c, ∃ w : Nat, ts = [.ref s, .int w] ∧ w ≤ 1000 ∧ IsSrc S s c ∧ ∀ q S', Small (3 * w) q → IsSrc S' s c → Kept S S' s c → R (rT q) S'
theorem w_drawF (G : Gx) (N : List Str) (hN : N.length = 3) {x0 : Str} (h0 : G.fns[0]? = some (x0, spLF)) {x1 : Str} (h1 : G.fns[1]? = some (x1, spPick)) (ts : List T) (S : Sto) (R : RP) (X : XP) (h : spDrawF ts S R X) : ts.length = 2 ∧ wS b_l_draw_fraction G (startE N ts) S { nx := fun _ S' => R .non S', rt := R, xx := fun _ => X } := by
  obtain ⟨s, c, w, rfl, lw, hs, k⟩ := h
  refine ⟨rfl, ?_⟩
  unfold startE
  rw [hN]
  show wS b_l_draw_fraction G [some (.ref s), some (.int w), none] S _
  simp only [b_l_draw_fraction, b_l_draw_fraction_1, wS, sem, Sm.val, Sm.tst, Sm.arg, Sm.itr, boolOf, truthOf, gT, gTs, zipK, seqOf, lstOf, Co.sem, oInt, Bo.sem, oAdd, oSub, oMul, oDiv, oMod, Bf.sem, oLen, oAbs, oInt1, oGcd, oNeg, oIx, Mt.sem, List.getElem?_cons_zero, List.getElem?_cons_succ, List.set_cons_zero, List.set_cons_succ, setAll, frz_lst, frz_dct, tru_bl, tru_int, oEq_int, oEq_str, Bool.false_bne, Bool.true_bne, if_true, if_false, Bool.false_eq_true, reduceIte, Bool.not_true, Bool.not_false, List.cons.injEq, true_and, and_true, List.length_cons, List.length_nil, Option.some.injEq, exists_eq_left', h1]
  refine ⟨by decide, fun _ => pick_of hs (by omega) (by omega) fun i S1 i1 i2 hs1 k1 => ?_⟩
  obtain ⟨t, e1, e2⟩ := at_in (us := [T.int 1, T.int 1, T.int 1, T.int 2, T.int 3]) i1 i2
  refine ⟨t, e1, ?_⟩
  obtain ⟨d, rfl, d1, d2⟩ : ∃ d : Int, t = .int d ∧ 1 ≤ d ∧ d ≤ 3 := by
    simp only [List.mem_cons, List.not_mem_nil, or_false] at e2
    rcases e2 with rfl | rfl | rfl | rfl | rfl <;> exact ⟨_, rfl, by omega, by omega⟩
  have m1 : (w : Int) * d ≤ 3 * w := by
    have := Int.mul_le_mul_of_nonneg_left d2 (show (0 : Int) ≤ w by omega)
    omega
  have m0 : 0 ≤ (w : Int) * d := Int.mul_nonneg (by omega) (by omega)
  have m2 : 2 * (w : Int) * d = 2 * (w * d) := Int.mul_assoc ..
  simp only [b_l_draw_fraction_0, wS, sem, Sm.val, Sm.tst, Sm.arg, Sm.itr, boolOf, truthOf, gT, gTs, zipK, seqOf, lstOf, Co.sem, oInt, Bo.sem, oAdd, oSub, oMul, oDiv, oMod, Bf.sem, oLen, oAbs, oInt1, oGcd, oNeg, oIx, Mt.sem, List.getElem?_cons_zero, List.getElem?_cons_succ, List.set_cons_zero, List.set_cons_succ, setAll, frz_lst, frz_dct, tru_bl, tru_int, oEq_int, oEq_str, Bool.false_bne, Bool.true_bne, if_true, if_false, Bool.false_eq_true, reduceIte, Bool.not_true, Bool.not_false, List.cons.injEq, true_and, and_true, List.length_cons, List.length_nil, Option.some.injEq, exists_eq_left', h0, h1]
  refine ⟨.inl (.inl (by omega)), .inl (.inr (by omega)), pick_of hs1 (by omega) (by omega) fun j S2 j1 j2 hs2 k2 => ?_⟩
  refine ⟨.inl (.inl (by omega)), _, d, rfl, by omega, ?_, ?_⟩
  · show d.natAbs < 2 ^ 8000
    exact Nat.lt_of_lt_of_le (show d.natAbs < 2 ^ 2 by omega) (Nat.pow_le_pow_right (by omega) (by omega))
  · obtain ⟨b1, b2⟩ := div_le (n := j - w * d) (d := d) (a := 3 * w) (b := 3) (by omega) (by omega) (by omega)
    exact k _ _ ⟨b1, b2⟩ hs2 (k1.tr k2)
/-- a row that the source gives, all its numbers such as p tells -/
def spDrawRow : TSp := fun ts S R X => ∃ s c, ∃ n w : Nat, ts = [.ref s, .int n, .int w] ∧ n ≤ 1000 ∧ w ≤ 1000 ∧ IsSrc S s c ∧ ∀ (qs : List Rat) S', qs.length = n → (∀ q ∈ qs, Small (3 * w) q) → IsSrc S' s c → Kept S S' s c → R (rowT qs) S'
theorem wLc_rat {own : List Nat} {g : Tg} {el : WE1} {gd : Sto → Prop} {env : Env} {R : List T → Sto → Prop} (P : Rat → Prop) {s c : Addr} {S0 : Sto} (hg : ∀ S, gd S) {ts : List T} (hl : ts.length < sizeLine) :
    (∀ t S (C : RP), t ∈ ts → IsSrc S s c → Kept S0 S s c → (∀ q S2, P q → IsSrc S2 s c → Kept S0 S2 s c → C (rT q) S2) → gT g t (wipeE env own) S fun env' => el env' S C fun _ _ => False) → IsSrc S0 s c → (∀ (qs : List Rat) S, qs.length = ts.length → (∀ q ∈ qs, P q) → IsSrc S s c → Kept S0 S s c → R (qs.map rT) S) → wLc own g (fun _ S R _ => R true S) el gd env ts [] S0 R := by
  intro step hs fin
  refine wLc_by (fun acc S => IsSrc S s c ∧ Kept S0 S s c ∧ acc.length ≤ ts.length ∧ ∃ qs : List Rat, acc = qs.map rT ∧ ∀ q ∈ qs, P q) (fun _ S _ => hg S) (fun acc S h => Nat.lt_of_le_of_lt h.2.2.1 hl) ?_ ?_ ⟨hs, fun _ _ _ => rfl, by simp, [], rfl, by simp⟩
  · rintro t acc S C ht ⟨hs1, k1, l1, qs, rfl, hq⟩ hlt hC
    refine step t S C ht hs1 k1 fun q S2 pq hs2 k2 => hC _ _ ⟨hs2, k2, by simp at hlt ⊢; omega, qs ++ [q], by simp, fun x hx => ?_⟩
    rcases List.mem_append.mp hx with hx | hx
    · exact hq x hx
    · rw [List.mem_singleton.mp hx]; exact pq
  · rintro acc S ⟨hs1, k1, l1, qs, rfl, hq⟩ hlen
    exact fin qs S (by simpa using hlen) hq hs1 k1
theorem w_drawRow (G : Gx) (N : List Str) (hN : N.length = 4) {x0 : Str} (h0 : G.fns[0]? = some (x0, spDrawF)) (ts : List T) (S : Sto) (R : RP) (X : XP) (h : spDrawRow ts S R X) : ts.length = 3 ∧ wS b_l_draw_row G (startE N ts) S { nx := fun _ S' => R .non S', rt := R, xx := fun _ => X } := by
  obtain ⟨s, c, n, w, rfl, ln, lw, hs, k⟩ := h
  refine ⟨rfl, ?_⟩
  unfold startE
  rw [hN]
  show wS b_l_draw_row G [some (.ref s), some (.int n), some (.int w), none] S _
  simp only [b_l_draw_row, wS, sem, Sm.val, Sm.tst, Sm.arg, Sm.itr, boolOf, truthOf, gT, gTs, zipK, seqOf, lstOf, Co.sem, oInt, Bo.sem, oAdd, oSub, oMul, oDiv, oMod, Bf.sem, oLen, oAbs, oInt1, oGcd, oNeg, oIx, Mt.sem, List.getElem?_cons_zero, List.getElem?_cons_succ, List.set_cons_zero, List.set_cons_succ, setAll, frz_lst, frz_dct, tru_bl, tru_int, oEq_int, oEq_str, Bool.false_bne, Bool.true_bne, if_true, if_false, Bool.false_eq_true, reduceIte, Bool.not_true, Bool.not_false, List.cons.injEq, true_and, and_true, List.length_cons, List.length_nil, Option.some.injEq, exists_eq_left', h0]
  refine ⟨by omega, wLc_rat (Small (3 * w)) (fun _ => trivial) ?_ ?_ hs ?_⟩
  · simp only [List.length_map, List.length_range, Int.toNat_natCast]
    exact Nat.lt_of_le_of_lt ln (by decide)
  · intro t S1 C ht hs1 k1 hC
    simp only [wS, sem, Sm.val, Sm.tst, Sm.arg, Sm.itr, boolOf, truthOf, gT, gTs, zipK, seqOf, lstOf, Co.sem, oInt, Bo.sem, oAdd, oSub, oMul, oDiv, oMod, Bf.sem, oLen, oAbs, oInt1, oGcd, oNeg, oIx, Mt.sem, List.getElem?_cons_zero, List.getElem?_cons_succ, List.set_cons_zero, List.set_cons_succ, setAll, frz_lst, frz_dct, tru_bl, tru_int, oEq_int, oEq_str, Bool.false_bne, Bool.true_bne, if_true, if_false, Bool.false_eq_true, reduceIte, Bool.not_true, Bool.not_false, List.cons.injEq, true_and, and_true, List.length_cons, List.length_nil, Option.some.injEq, exists_eq_left', wipeE, List.map_cons, List.map_nil]
    exact ⟨s, c, w, rfl, lw, hs1, fun q S2 pq hs2 k2 => hC q S2 pq hs2 (k1.tr k2)⟩
  · intro qs S1 hl hq hs1 k1 _
    simp only [oTup, wS, sem, Sm.val, Sm.tst, Sm.arg, Sm.itr, boolOf, truthOf, gT, gTs, zipK, seqOf, lstOf, Co.sem, oInt, Bo.sem, oAdd, oSub, oMul, oDiv, oMod, Bf.sem, oLen, oAbs, oInt1, oGcd, oNeg, oIx, Mt.sem, List.getElem?_cons_zero, List.getElem?_cons_succ, List.set_cons_zero, List.set_cons_succ, setAll, frz_lst, frz_dct, tru_bl, tru_int, oEq_int, oEq_str, Bool.false_bne, Bool.true_bne, if_true, if_false, Bool.false_eq_true, reduceIte, Bool.not_true, Bool.not_false, List.cons.injEq, true_and, and_true, List.length_cons, List.length_nil, Option.some.injEq, exists_eq_left']
    exact k qs S1 (by simpa using hl) hq hs1 k1
theorem isF_rat {t : T} (h : IsF t) : ∃ q : Rat, t = rT q ∧ Sz 31 q := by
  obtain ⟨n, d, rfl, a, b, c, g⟩ := h
  have e := rT_nf (n := n) (d := d) ⟨c, g⟩
  obtain ⟨e1, e2⟩ := rT_num e
  refine ⟨_, e, ?_, ?_⟩
  · rw [← e1]; exact Nat.lt_of_le_of_lt a (by decide)
  · rw [← e2]; exact Nat.lt_of_le_of_lt b (by decide)
theorem sh_row {k : Nat} {qs : List Rat} (h : ∀ q ∈ qs, Sz k q) (l : k ≤ 1000) (n : qs.length ≤ 12) : Sh 2 50000 (rowT qs) :=
  (sh_tup (k := 1) (m := 3849) (ts := qs.map rT) fun t ht => by
    obtain ⟨q, hq, rfl⟩ := List.mem_map.mp ht
    exact sh_rat (h q hq) l).up (Nat.le_refl _) (by rw [List.length_map]; omega)
theorem lfrac_R {ts : List T} {S : Sto} {R : RP} {X : XP} (h : spLFrac ts S R X) : spLF ts S R X := by
  obtain ⟨n, d, rfl, d0, nd, k⟩ := h
  refine ⟨n, d, rfl, d0, Nat.lt_of_lt_of_le nd (Nat.pow_le_pow_right (by omega) (by omega)), ?_⟩
  rw [← frT_rat d0]
  exact k
end TP

set_option maxHeartbeats 4000000
namespace TP
open PySem PySem.Spec PyProof.Rows L2

/-! ### order, rooms, places -/

def n_is_less : List Str := ["x", "y"]
abbrev b_is_less : Stm := (.cons (.ret (.cmp .lt (.bin .mul (.ix (.var 0) (.int 0)) (.ix (.var 1) (.int 1))) (.bin .mul (.ix (.var 1) (.int 0)) (.ix (.var 0) (.int 1))))) .nil)

def n_most_in : List Str := ["room", "slope", "x", "low", "high"]
abbrev b_most_in : Stm := (.cons (.ret (.call 0 (.cons (.var 1) (.cons (.blt .tuple (.cons (.frz (.lc [("x", 2), ("low", 3), ("high", 4)] (.tup (.cons (.tup (.cons (.nm 3) (.cons (.nm 4) .nil))) (.cons (.nm 2) .nil))) (.iZ (.var 0) (.var 1)) (.ife (.call 1 (.cons (.var 2) (.cons (.con 0) .nil))) (.var 3) (.var 4)))) .nil)) .nil)))) .nil)

def n_l_below : List Str := ["_law_x", "_law_y"]
abbrev b_l_below : Stm := (.cons (.ret (.cmp .lt (.bin .mul (.ix (.var 0) (.int 0)) (.ix (.var 1) (.int 1))) (.bin .mul (.ix (.var 1) (.int 0)) (.ix (.var 0) (.int 1))))) .nil)
def b_l_draw_room_0 : Stm := .cons (.ret (.blt .tuple (.cons (.var 2) .nil))) .nil
def b_l_draw_room_1 : Stm := .cons (.expr (.mth .append (.var 2) (.cons (.tup (.cons (.var 4) (.cons (.call 0 (.cons (.var 4) (.cons (.call 1 (.cons (.bin .add (.int 1) (.call 2 (.cons (.var 0) (.cons (.int 6) .nil)))) (.cons (.bin .add (.int 1) (.call 2 (.cons (.var 0) (.cons (.int 2) .nil)))) .nil))) .nil))) .nil))) .nil))) .nil
def b_l_draw_room_2 : Stm := .cons (.asg (.nm 4) (.call 1 (.cons (.ix (.frz (.lst (.cons (.int 0) (.cons (.bin .sub (.int 0) (.int 1)) (.cons (.bin .sub (.int 0) (.int 2)) (.cons (.int 1) (.cons (.int 2) .nil))))))) (.call 2 (.cons (.var 0) (.cons (.int 5) .nil)))) (.cons (.bin .add (.int 1) (.call 2 (.cons (.var 0) (.cons (.int 2) .nil)))) .nil)))) b_l_draw_room_1
def b_l_draw_room_3 : Stm := .cons (.for_ (.nm 3) (.iR1 (.var 1)) b_l_draw_room_2) b_l_draw_room_0
def b_l_draw_room_4 : Stm := .cons (.asg (.nm 2) (.lst .nil)) b_l_draw_room_3
def n_l_draw_room : List Str := ["_law_source", "_law_many", "_law_found", "_law_i", "_law_low"]
abbrev b_l_draw_room : Stm := b_l_draw_room_4
def b_l_draw_place_0 : Stm := .cons (.ret (.blt .tuple (.cons (.var 2) .nil))) .nil
def b_l_draw_place_1 : Stm := .cons (.expr (.mth .append (.var 2) (.cons (.call 0 (.cons (.var 3) (.cons (.call 1 (.cons (.call 3 (.cons (.var 4) (.cons (.var 3) .nil))) (.cons (.call 2 (.cons (.var 5) (.cons (.int 6) .nil))) .nil))) .nil))) .nil))) .nil
def b_l_draw_place_2 : Stm := .cons (.asg (.nm 5) (.ix (.frz (.lst (.cons (.int 0) (.cons (.int 6) (.cons (.int 3) (.cons (.int 1) (.cons (.int 2) (.cons (.int 4) .nil)))))))) (.call 4 (.cons (.var 0) (.cons (.int 6) .nil))))) b_l_draw_place_1
def b_l_draw_place_3 : Stm := .cons (.for_ (.tup (.cons (.nm 3) (.cons (.nm 4) .nil))) (.iA (.var 1)) b_l_draw_place_2) b_l_draw_place_0
def b_l_draw_place_4 : Stm := .cons (.asg (.nm 2) (.lst .nil)) b_l_draw_place_3
def n_l_draw_place : List Str := ["_law_source", "_law_room", "_law_found", "_law_low", "_law_high", "_law_n"]
abbrev b_l_draw_place : Stm := b_l_draw_place_4
def spLess : TSp := fun ts S R X => ∃ x y : Rat, ts = [rT x, rT y] ∧ Sz 3000 x ∧ Sz 3000 y ∧ R (.bl (decide (x < y))) S
theorem lt_cross (x y : Rat) : decide (x.num * (y.den : Int) < y.num * (x.den : Int)) = decide (x < y) := by
  rw [Bool.eq_iff_iff, decide_eq_true_eq, decide_eq_true_eq, Rat.lt_iff]
theorem w_less (G : Gx) (N : List Str) (hN : N.length = 2)  (ts : List T) (S : Sto) (R : RP) (X : XP) (h : spLess ts S R X) : ts.length = 2 ∧ wS b_is_less G (startE N ts) S { nx := fun _ S' => R .non S', rt := R, xx := fun _ => X } := by
  obtain ⟨x, y, rfl, sx, sy, k⟩ := h
  refine ⟨rfl, ?_⟩
  unfold startE
  rw [hN]
  show wS b_is_less G [some (.tup [.int x.num, .int x.den]), some (.tup [.int y.num, .int y.den])] S _
  simp only [b_is_less, wS, sem, Sm.val, Sm.tst, Sm.arg, Sm.itr, boolOf, truthOf, gT, gTs, zipK, seqOf, lstOf, Co.sem, oInt, Bo.sem, oAdd, oSub, oMul, oDiv, oMod, Bf.sem, oLen, oAbs, oInt1, oGcd, oNeg, oIx, Mt.sem, List.getElem?_cons_zero, List.getElem?_cons_succ, List.set_cons_zero, List.set_cons_succ, setAll, frz_lst, frz_dct, tru_bl, tru_int, oEq_int, oEq_str, Bool.false_bne, Bool.true_bne, if_true, if_false, Bool.false_eq_true, reduceIte, Bool.not_true, Bool.not_false, List.cons.injEq, true_and, and_true, List.length_cons, List.length_nil, Option.some.injEq, exists_eq_left', at_one, at_nought, lt_cross]
  have m : ∀ {i j : Int}, Bt 3000 i → Bt 3000 j → MulOk i j := fun p q => mul_bt p q (by omega) (by omega) (by omega)
  exact ⟨m sx.1 sy.2, m sy.1 sx.2, k⟩
theorem w_below (G : Gx) (N : List Str) (hN : N.length = 2)  (ts : List T) (S : Sto) (R : RP) (X : XP) (h : spLess ts S R X) : ts.length = 2 ∧ wS b_l_below G (startE N ts) S { nx := fun _ S' => R .non S', rt := R, xx := fun _ => X } := by
  obtain ⟨x, y, rfl, sx, sy, k⟩ := h
  refine ⟨rfl, ?_⟩
  unfold startE
  rw [hN]
  show wS b_l_below G [some (.tup [.int x.num, .int x.den]), some (.tup [.int y.num, .int y.den])] S _
  simp only [b_l_below, wS, sem, Sm.val, Sm.tst, Sm.arg, Sm.itr, boolOf, truthOf, gT, gTs, zipK, seqOf, lstOf, Co.sem, oInt, Bo.sem, oAdd, oSub, oMul, oDiv, oMod, Bf.sem, oLen, oAbs, oInt1, oGcd, oNeg, oIx, Mt.sem, List.getElem?_cons_zero, List.getElem?_cons_succ, List.set_cons_zero, List.set_cons_succ, setAll, frz_lst, frz_dct, tru_bl, tru_int, oEq_int, oEq_str, Bool.false_bne, Bool.true_bne, if_true, if_false, Bool.false_eq_true, reduceIte, Bool.not_true, Bool.not_false, List.cons.injEq, true_and, and_true, List.length_cons, List.length_nil, Option.some.injEq, exists_eq_left', at_one, at_nought, lt_cross]
  have m : ∀ {i j : Int}, Bt 3000 i → Bt 3000 j → MulOk i j := fun p q => mul_bt p q (by omega) (by omega) (by omega)
  exact ⟨m sx.1 sy.2, m sy.1 sx.2, k⟩
/-- what stood in the store and is no source's stays -/
def KeptW (S S' : Sto) (s c : Addr) : Prop := ∀ b o, S b = some o → b ≠ s → b ≠ c → S' b = some o
theorem Kept.w {S S' : Sto} {s c : Addr} (h : Kept S S' s c) : KeptW S S' s c := fun b o e h1 h2 => (h b h1 h2).trans e
theorem KeptW.tr {S S1 S2 : Sto} {s c : Addr} (a : KeptW S S1 s c) (b : KeptW S1 S2 s c) : KeptW S S2 s c := fun x o e h1 h2 => b x o (a x o e h1 h2) h1 h2
theorem KeptW.refl {S : Sto} {s c : Addr} : KeptW S S s c := fun _ _ e _ _ => e
theorem IsSrc.ne {S : Sto} {s c p : Addr} (h : IsSrc S s c) (n : S p = none) : p ≠ s ∧ p ≠ c := by
  obtain ⟨l, m, t, cs, e1, e2, _⟩ := h
  exact ⟨fun z => (by rw [z, e1] at n; cases n), fun z => (by rw [z, e2] at n; cases n)⟩
theorem IsSrc.put {S : Sto} {s c p : Addr} {x : Cell} (h : IsSrc S s c) (a : p ≠ s) (b : p ≠ c) : IsSrc (up S p x) s c := by
  obtain ⟨l, m, t, cs, e1, e2, e3⟩ := h
  exact ⟨l, m, t, cs, (up_ne (Ne.symm a)).trans e1, (up_ne (Ne.symm b)).trans e2, e3⟩
theorem KeptW.new {S : Sto} {s c p : Addr} {x : Cell} (n : S p = none) : KeptW S (up S p x) s c := fun b o e _ _ => (up_ne fun z => by rw [z, n] at e; cases e).trans e
abbrev Rm := List (Rat × Rat)
def lvT (p : Rat × Rat) : T := .tup [rT p.1, rT p.2]
def roomT (rs : Rm) : T := .tup (rs.map lvT)
theorem zip_tt {α β : Type} (f : α → T) (g : β → T) (xs : List α) (ys : List β) : ((xs.map f).zip (ys.map g)).map (fun p => T.tup [p.1, p.2]) = (xs.zip ys).map fun p => .tup [f p.1, g p.2] := by
  rw [List.zip_map, List.map_map]; rfl
/-! ### the greatest product -/
def cornerR (rs : Rm) (qs : List Rat) : List Rat := (rs.zip qs).map fun p => if p.2 < 0 then p.1.1 else p.1.2
def mostR (rs : Rm) (qs : List Rat) : Rat := dotR qs (cornerR rs qs)
def spMost : TSp := fun ts S R X => ∃ (rs : Rm) (qs : List Rat) (k : Nat), ts = [roomT rs, rowT qs] ∧ (∀ p ∈ rs, Sz k p.1 ∧ Sz k p.2) ∧ (∀ q ∈ qs, Sz k q) ∧ k ≤ 1400 ∧ (k + k + 1) * qs.length + 1 ≤ 3000 ∧ R (rT (mostR rs qs)) S
theorem w_most (G : Gx) (N : List Str) (hN : N.length = 5) {x0 : Str} (h0 : G.fns[0]? = some (x0, spDot)) {x1 : Str} (h1 : G.fns[1]? = some (x1, spLess)) {z0 : Str} (hc0 : G.cons[0]? = some (z0, rT 0)) (ts : List T) (S : Sto) (R : RP) (X : XP) (h : spMost ts S R X) : ts.length = 2 ∧ wS b_most_in G (startE N ts) S { nx := fun _ S' => R .non S', rt := R, xx := fun _ => X } := by
  obtain ⟨rs, qs, kk, rfl, sr, sq, lk, ll, k⟩ := h
  refine ⟨rfl, ?_⟩
  unfold startE
  rw [hN]
  show wS b_most_in G [some (.tup (rs.map lvT)), some (.tup (qs.map rT)), none, none, none] S _
  have lq : qs.length ≤ 3000 := by
    have := Nat.le_mul_of_pos_left qs.length (show 0 < kk + kk + 1 by omega)
    omega
  simp only [b_most_in, wS, sem, Sm.val, Sm.tst, Sm.arg, Sm.itr, boolOf, truthOf, gT, gTs, zipK, seqOf, lstOf, Co.sem, oInt, Bo.sem, oAdd, oSub, oMul, oDiv, oMod, Bf.sem, oLen, oAbs, oInt1, oGcd, oNeg, oIx, Mt.sem, List.getElem?_cons_zero, List.getElem?_cons_succ, List.set_cons_zero, List.set_cons_succ, setAll, frz_lst, frz_dct, tru_bl, tru_int, oEq_int, oEq_str, Bool.false_bne, Bool.true_bne, if_true, if_false, Bool.false_eq_true, reduceIte, Bool.not_true, Bool.not_false, List.cons.injEq, true_and, and_true, List.length_cons, List.length_nil, Option.some.injEq, exists_eq_left', h0, zip_tt]
  refine wLc_of (fun p : (Rat × Rat) × Rat => .tup [lvT p.1, rT p.2]) (fun p => rT (if p.2 < 0 then p.1.1 else p.1.2)) trivial ?_ ?_ ?_
  · simp only [List.length_nil, List.length_zip]
    exact Nat.le_trans (show _ ≤ 3000 by omega) (by decide)
  · rintro ⟨⟨lo, hi⟩, q⟩ hp C hC
    obtain ⟨m1, m2⟩ := List.of_mem_zip hp
    simp only [wS, sem, Sm.val, Sm.tst, Sm.arg, Sm.itr, boolOf, truthOf, gT, gTs, zipK, seqOf, lstOf, Co.sem, oInt, Bo.sem, oAdd, oSub, oMul, oDiv, oMod, Bf.sem, oLen, oAbs, oInt1, oGcd, oNeg, oIx, Mt.sem, List.getElem?_cons_zero, List.getElem?_cons_succ, List.set_cons_zero, List.set_cons_succ, setAll, frz_lst, frz_dct, tru_bl, tru_int, oEq_int, oEq_str, Bool.false_bne, Bool.true_bne, if_true, if_false, Bool.false_eq_true, reduceIte, Bool.not_true, Bool.not_false, List.cons.injEq, true_and, and_true, List.length_cons, List.length_nil, Option.some.injEq, exists_eq_left', lvT, wipeE, List.map_cons, List.map_nil, h1, hc0]
    refine ⟨q, 0, rfl, (sq q m2).up (by omega), sz_zero.up (by omega), ?_⟩
    simp only at hC
    by_cases hn : q < 0
    · simp only [hn, decide_true, wS, sem, Sm.val, Sm.tst, Sm.arg, Sm.itr, boolOf, truthOf, gT, gTs, zipK, seqOf, lstOf, Co.sem, oInt, Bo.sem, oAdd, oSub, oMul, oDiv, oMod, Bf.sem, oLen, oAbs, oInt1, oGcd, oNeg, oIx, Mt.sem, List.getElem?_cons_zero, List.getElem?_cons_succ, List.set_cons_zero, List.set_cons_succ, setAll, frz_lst, frz_dct, tru_bl, tru_int, oEq_int, oEq_str, Bool.false_bne, Bool.true_bne, if_true, if_false, Bool.false_eq_true, reduceIte, Bool.not_true, Bool.not_false, List.cons.injEq, true_and, and_true, List.length_cons, List.length_nil, Option.some.injEq, exists_eq_left'] at hC ⊢
      exact hC
    · simp only [hn, decide_false, wS, sem, Sm.val, Sm.tst, Sm.arg, Sm.itr, boolOf, truthOf, gT, gTs, zipK, seqOf, lstOf, Co.sem, oInt, Bo.sem, oAdd, oSub, oMul, oDiv, oMod, Bf.sem, oLen, oAbs, oInt1, oGcd, oNeg, oIx, Mt.sem, List.getElem?_cons_zero, List.getElem?_cons_succ, List.set_cons_zero, List.set_cons_succ, setAll, frz_lst, frz_dct, tru_bl, tru_int, oEq_int, oEq_str, Bool.false_bne, Bool.true_bne, if_true, if_false, Bool.false_eq_true, reduceIte, Bool.not_true, Bool.not_false, List.cons.injEq, true_and, and_true, List.length_cons, List.length_nil, Option.some.injEq, exists_eq_left'] at hC ⊢
      exact hC
  · intro _
    simp only [List.nil_append, oTup, wS, sem, Sm.val, Sm.tst, Sm.arg, Sm.itr, boolOf, truthOf, gT, gTs, zipK, seqOf, lstOf, Co.sem, oInt, Bo.sem, oAdd, oSub, oMul, oDiv, oMod, Bf.sem, oLen, oAbs, oInt1, oGcd, oNeg, oIx, Mt.sem, List.getElem?_cons_zero, List.getElem?_cons_succ, List.set_cons_zero, List.set_cons_succ, setAll, frz_lst, frz_dct, tru_bl, tru_int, oEq_int, oEq_str, Bool.false_bne, Bool.true_bne, if_true, if_false, Bool.false_eq_true, reduceIte, Bool.not_true, Bool.not_false, List.cons.injEq, true_and, and_true, List.length_cons, List.length_nil, Option.some.injEq, exists_eq_left']
    refine ⟨qs, cornerR rs qs, kk, by unfold rowT cornerR; rw [List.map_map]; rfl, sq, fun z hz => ?_, lk, ll, k⟩
    obtain ⟨⟨⟨lo, hi⟩, q⟩, hp, rfl⟩ := List.mem_map.mp hz
    obtain ⟨m1, m2⟩ := List.of_mem_zip hp
    simp only
    split
    · exact (sr _ m1).1
    · exact (sr _ m1).2
/-- a place, level by level -/
def InR (rs : Rm) (zs : List Rat) : Prop := zs.length = rs.length ∧ ∀ p ∈ rs.zip zs, p.1.1 ≤ p.2 ∧ p.2 ≤ p.1.2
theorem most_nil (qs : List Rat) : mostR [] qs = 0 := by
  unfold mostR dotR cornerR
  cases qs <;> rfl
theorem most_cons (p : Rat × Rat) (rs : Rm) (q : Rat) (qs : List Rat) : mostR (p :: rs) (q :: qs) = q * (if q < 0 then p.1 else p.2) + mostR rs qs := rfl
theorem dot_cons (x y : Rat) (xs ys : List Rat) : dotR (x :: xs) (y :: ys) = x * y + dotR xs ys := rfl
theorem one_most {q z lo hi : Rat} (a : lo ≤ z) (b : z ≤ hi) : q * z ≤ q * (if q < 0 then lo else hi) := by
  by_cases h : q < 0
  · rw [if_pos h]
    have h' : 0 ≤ -q := by grind
    have := Rat.mul_le_mul_of_nonneg_left a h'
    rw [Rat.neg_mul, Rat.neg_mul] at this
    exact Rat.neg_le_neg_iff.mp this
  · rw [if_neg h]
    exact Rat.mul_le_mul_of_nonneg_left b (by grind)
theorem dot_most : ∀ (rs : Rm) (qs zs : List Rat), InR rs zs → qs.length = rs.length → dotR qs zs ≤ mostR rs qs
  | [], qs, zs, h, l => by
    have e1 := List.length_eq_zero_iff.mp l
    have e2 := List.length_eq_zero_iff.mp h.1
    subst e1; subst e2
    exact Rat.le_refl
  | p :: rs, [], zs, h, l => by cases l
  | p :: rs, q :: qs, [], h, l => by cases h.1
  | p :: rs, q :: qs, z :: zs, h, l => by
    rw [dot_cons, most_cons]
    have ih := dot_most rs qs zs ⟨by simpa using h.1, fun x hx => h.2 x (by rw [List.zip_cons_cons]; exact List.mem_cons_of_mem _ hx)⟩ (by simpa using l)
    obtain ⟨a, b⟩ := h.2 (p, z) (by rw [List.zip_cons_cons]; exact List.mem_cons_self)
    have := one_most (q := q) a b
    grind
theorem corner_len {rs : Rm} {qs : List Rat} (l : qs.length = rs.length) : (cornerR rs qs).length = rs.length := by
  unfold cornerR; rw [List.length_map, List.length_zip]; omega
theorem most_scale {t : Rat} (ht : 0 < t) : ∀ (rs : Rm) (qs : List Rat), mostR rs (qs.map fun q => q * t) = mostR rs qs * t
  | [], qs => by rw [most_nil, most_nil, Rat.zero_mul]
  | p :: rs, [] => by show (0 : Rat) = 0 * t; rw [Rat.zero_mul]
  | p :: rs, q :: qs => by
    rw [List.map_cons, most_cons, most_cons, most_scale ht rs qs, Rat.add_mul]
    congr 1
    have e : q * t < 0 ↔ q < 0 := by
      rw [Rat.mul_comm]; exact Rat.mul_neg_iff_of_pos_left ht
    simp only [e]
    rw [Rat.mul_assoc, Rat.mul_comm t, ← Rat.mul_assoc]
theorem most_zero : ∀ (rs : Rm) (n : Nat), mostR rs (List.replicate n 0) = 0
  | [], n => most_nil _
  | p :: rs, 0 => rfl
  | p :: rs, n + 1 => by
    rw [List.replicate_succ, most_cons, most_zero rs n, Rat.zero_mul, Rat.add_zero]
/-! ### drawn rooms and places -/
def RoomP (p : Rat × Rat) : Prop := Sz 2 p.1 ∧ Sz 6 p.2 ∧ p.1 < p.2
def spDrawRoom : TSp := fun ts S R X => ∃ s c, ∃ n : Nat, ts = [.ref s, .int n] ∧ n ≤ 1000 ∧ IsSrc S s c ∧ ∀ (rs : Rm) S', rs.length = n → (∀ p ∈ rs, RoomP p) → IsSrc S' s c → KeptW S S' s c → R (roomT rs) S'
theorem sz_of {n d : Int} {a b k : Nat} (h : d ≠ 0) (ha : n.natAbs ≤ a) (hb : d.natAbs ≤ b) (la : a < 2 ^ k) (lb : b < 2 ^ k) : Sz k (Rat.divInt n d) := by
  obtain ⟨b1, b2⟩ := div_le h ha hb
  exact ⟨Nat.lt_of_le_of_lt b1 la, by show (Rat.divInt n d).den < 2 ^ k; omega⟩
theorem div_pos' {n d : Int} (hn : 0 < n) (hd : 0 < d) : 0 < Rat.divInt n d := by
  have h1 : 0 ≤ Rat.divInt n d := Rat.divInt_nonneg (by omega) (by omega)
  refine Rat.lt_of_le_of_ne h1 fun e => ?_
  have e2 : Rat.divInt n d = Rat.divInt 0 1 := by rw [← e]; rfl
  rw [Rat.divInt_eq_divInt_iff (by omega) (by omega)] at e2
  omega
theorem bt_small {k m : Nat} {i : Int} (h : i.natAbs < 2 ^ k) (l : k ≤ m) : Bt m i := Nat.lt_of_lt_of_le h (Nat.pow_le_pow_right (by omega) l)
theorem w_drawRoom (G : Gx) (N : List Str) (hN : N.length = 5) {x0 : Str} (h0 : G.fns[0]? = some (x0, spBin fun x y => x + y)) {x1 : Str} (h1 : G.fns[1]? = some (x1, spLF)) {x2 : Str} (h2 : G.fns[2]? = some (x2, spPick)) (ts : List T) (S : Sto) (R : RP) (X : XP) (h : spDrawRoom ts S R X) : ts.length = 2 ∧ wS b_l_draw_room G (startE N ts) S { nx := fun _ S' => R .non S', rt := R, xx := fun _ => X } := by
  obtain ⟨s, c, n, rfl, ln, hs, k⟩ := h
  refine ⟨rfl, ?_⟩
  unfold startE
  rw [hN]
  show wS b_l_draw_room G [some (.ref s), some (.int n), none, none, none] S _
  simp only [b_l_draw_room, b_l_draw_room_4, wS, sem, Sm.val, Sm.tst, Sm.arg, Sm.itr, boolOf, truthOf, gT, gTs, zipK, seqOf, lstOf, Co.sem, oInt, Bo.sem, oAdd, oSub, oMul, oDiv, oMod, Bf.sem, oLen, oAbs, oInt1, oGcd, oNeg, oIx, Mt.sem, List.getElem?_cons_zero, List.getElem?_cons_succ, List.set_cons_zero, List.set_cons_succ, setAll, frz_lst, frz_dct, tru_bl, tru_int, oEq_int, oEq_str, Bool.false_bne, Bool.true_bne, if_true, if_false, Bool.false_eq_true, reduceIte, Bool.not_true, Bool.not_false, List.cons.injEq, true_and, and_true, List.length_cons, List.length_nil, Option.some.injEq, exists_eq_left']
  refine ⟨by decide, fun p hp => ?_⟩
  obtain ⟨ns, nc⟩ := hs.ne hp
  simp only [b_l_draw_room_3, wS, sem, Sm.val, Sm.tst, Sm.arg, Sm.itr, boolOf, truthOf, gT, gTs, zipK, seqOf, lstOf, Co.sem, oInt, Bo.sem, oAdd, oSub, oMul, oDiv, oMod, Bf.sem, oLen, oAbs, oInt1, oGcd, oNeg, oIx, Mt.sem, List.getElem?_cons_zero, List.getElem?_cons_succ, List.set_cons_zero, List.set_cons_succ, setAll, frz_lst, frz_dct, tru_bl, tru_int, oEq_int, oEq_str, Bool.false_bne, Bool.true_bne, if_true, if_false, Bool.false_eq_true, reduceIte, Bool.not_true, Bool.not_false, List.cons.injEq, true_and, and_true, List.length_cons, List.length_nil, Option.some.injEq, exists_eq_left']
  refine ⟨by omega, ?_⟩
  refine wFor_by (fun i e S' => IsSrc S' s c ∧ KeptW S S' s c ∧ (∃ a b, e = [some (.ref s), some (.int n), some (.ref p), a, b]) ∧ ∃ rs : Rm, rs.length = i ∧ (∀ x ∈ rs, RoomP x) ∧ S' p = some (.lst (rs.map lvT))) (fun _ _ _ _ => trivial) ?_ ?_ ⟨hs.put ns nc, KeptW.new hp, ⟨_, _, rfl⟩, [], rfl, by simp, up_same⟩
  · rintro i t e S1 C ht ⟨hs1, k1, ⟨a, b, rfl⟩, rs, lr, hr, e1⟩ hC
    have hi : i < n := by
      have := (List.getElem?_eq_some_iff.mp ht).1
      simpa using this
    simp only [b_l_draw_room_2, wS, sem, Sm.val, Sm.tst, Sm.arg, Sm.itr, boolOf, truthOf, gT, gTs, zipK, seqOf, lstOf, Co.sem, oInt, Bo.sem, oAdd, oSub, oMul, oDiv, oMod, Bf.sem, oLen, oAbs, oInt1, oGcd, oNeg, oIx, Mt.sem, List.getElem?_cons_zero, List.getElem?_cons_succ, List.set_cons_zero, List.set_cons_succ, setAll, frz_lst, frz_dct, tru_bl, tru_int, oEq_int, oEq_str, Bool.false_bne, Bool.true_bne, if_true, if_false, Bool.false_eq_true, reduceIte, Bool.not_true, Bool.not_false, List.cons.injEq, true_and, and_true, List.length_cons, List.length_nil, Option.some.injEq, exists_eq_left', h1, h2]
    refine ⟨by decide, fun _ => pick_of hs1 (by omega) (by omega) fun j S2 j1 j2 hs2 k2 => ?_⟩
    obtain ⟨t, f1, f2⟩ := at_in (us := [T.int 0, T.int (0 - 1), T.int (0 - 2), T.int 1, T.int 2]) j1 j2
    obtain ⟨lo, rfl, lo1⟩ : ∃ lo : Int, t = .int lo ∧ lo.natAbs ≤ 2 := by
      simp only [List.mem_cons, List.not_mem_nil, or_false] at f2
      rcases f2 with rfl | rfl | rfl | rfl | rfl <;> exact ⟨_, rfl, by omega⟩
    refine ⟨_, f1, pick_of hs2 (by omega) (by omega) fun d S3 d1 d2 hs3 k3 => ?_⟩
    refine ⟨lo, 1 + d, rfl, by omega, bt_small (k := 3) (by omega) (by omega), ?_⟩
    simp only [wS, sem, Sm.val, Sm.tst, Sm.arg, Sm.itr, boolOf, truthOf, gT, gTs, zipK, seqOf, lstOf, Co.sem, oInt, Bo.sem, oAdd, oSub, oMul, oDiv, oMod, Bf.sem, oLen, oAbs, oInt1, oGcd, oNeg, oIx, Mt.sem, List.getElem?_cons_zero, List.getElem?_cons_succ, List.set_cons_zero, List.set_cons_succ, setAll, frz_lst, frz_dct, tru_bl, tru_int, oEq_int, oEq_str, Bool.false_bne, Bool.true_bne, if_true, if_false, Bool.false_eq_true, reduceIte, Bool.not_true, Bool.not_false, List.cons.injEq, true_and, and_true, List.length_cons, List.length_nil, Option.some.injEq, exists_eq_left']
    simp only [b_l_draw_room_1, wS, sem, Sm.val, Sm.tst, Sm.arg, Sm.itr, boolOf, truthOf, gT, gTs, zipK, seqOf, lstOf, Co.sem, oInt, Bo.sem, oAdd, oSub, oMul, oDiv, oMod, Bf.sem, oLen, oAbs, oInt1, oGcd, oNeg, oIx, Mt.sem, List.getElem?_cons_zero, List.getElem?_cons_succ, List.set_cons_zero, List.set_cons_succ, setAll, frz_lst, frz_dct, tru_bl, tru_int, oEq_int, oEq_str, Bool.false_bne, Bool.true_bne, if_true, if_false, Bool.false_eq_true, reduceIte, Bool.not_true, Bool.not_false, List.cons.injEq, true_and, and_true, List.length_cons, List.length_nil, Option.some.injEq, exists_eq_left', h0, h1, h2]
    have e3 : S3 p = some (.lst (rs.map lvT)) := (k3 p ns nc).trans ((k2 p ns nc).trans e1)
    refine ⟨⟨p, _, rfl, e3⟩, pick_of hs3 (by omega) (by omega) fun u S4 u1 u2 hs4 k4 => pick_of hs4 (by omega) (by omega) fun v S5 v1 v2 hs5 k5 => ?_⟩
    refine ⟨1 + u, 1 + v, rfl, by omega, bt_small (k := 3) (by omega) (by omega), ?_⟩
    have sz1 : Sz 2 (Rat.divInt lo (1 + d)) := sz_of (a := 2) (b := 2) (by omega) lo1 (by omega) (by decide) (by decide)
    have sz2 : Sz 3 (Rat.divInt (1 + u) (1 + v)) := sz_of (a := 6) (b := 2) (by omega) (by omega) (by omega) (by decide) (by decide)
    refine ⟨_, _, rfl, sz1.up (by omega), sz2.up (by omega), ?_⟩
    have e5 : S5 p = some (.lst (rs.map lvT)) := (k5 p ns nc).trans ((k4 p ns nc).trans e3)
    simp only [oAppend, e5, List.length_map]
    refine ⟨by decide, Nat.lt_of_lt_of_le (show rs.length < 1000 by omega) (by decide), hC _ _ ⟨hs5.put ns nc, fun b o eb hb hb' => ?_, ⟨_, _, rfl⟩, rs ++ [(Rat.divInt lo (1 + d), Rat.divInt lo (1 + d) + Rat.divInt (1 + u) (1 + v))], by simp [lr], fun x hx => ?_, ?_⟩⟩
    · have nb : b ≠ p := fun z => by rw [z, hp] at eb; cases eb
      rw [up_ne nb]
      exact (k2.w.tr (k3.w.tr (k4.w.tr k5.w))) b o (k1 b o eb hb hb') hb hb'
    · rcases List.mem_append.mp hx with hx | hx
      · exact hr x hx
      · rw [List.mem_singleton.mp hx]
        have p0 := div_pos' (n := 1 + u) (d := 1 + v) (by omega) (by omega)
        exact ⟨sz1, (sz_add sz1 sz2).up (by omega), by grind⟩
    · rw [up_same, List.map_append]
      rfl
  · rintro e S1 ⟨hs1, k1, ⟨a, b, rfl⟩, rs, lr, hr, e1⟩
    simp only [b_l_draw_room_0, wS, sem, Sm.val, Sm.tst, Sm.arg, Sm.itr, boolOf, truthOf, gT, gTs, zipK, seqOf, lstOf, Co.sem, oInt, Bo.sem, oAdd, oSub, oMul, oDiv, oMod, Bf.sem, oLen, oAbs, oInt1, oGcd, oNeg, oIx, Mt.sem, List.getElem?_cons_zero, List.getElem?_cons_succ, List.set_cons_zero, List.set_cons_succ, setAll, frz_lst, frz_dct, tru_bl, tru_int, oEq_int, oEq_str, Bool.false_bne, Bool.true_bne, if_true, if_false, Bool.false_eq_true, reduceIte, Bool.not_true, Bool.not_false, List.cons.injEq, true_and, and_true, List.length_cons, List.length_nil, Option.some.injEq, exists_eq_left', oTup, e1]
    exact k rs S1 (by simpa using lr) hr hs1 k1
def spDrawPlace : TSp := fun ts S R X => ∃ s c, ∃ rs : Rm, ts = [.ref s, roomT rs] ∧ rs.length ≤ 1000 ∧ (∀ p ∈ rs, RoomP p) ∧ IsSrc S s c ∧ ∀ (zs : List Rat) S', InR rs zs → (∀ z ∈ zs, Sz 15 z) → IsSrc S' s c → KeptW S S' s c → R (rowT zs) S'
theorem inR_snoc {rs : Rm} {zs : List Rat} {p : Rat × Rat} {z : Rat} (h : InR rs zs) (a : p.1 ≤ z) (b : z ≤ p.2) : InR (rs ++ [p]) (zs ++ [z]) := by
  refine ⟨by simp [h.1], fun x hx => ?_⟩
  rw [List.zip_append h.1.symm] at hx
  rcases List.mem_append.mp hx with hx | hx
  · exact h.2 x hx
  · rw [List.zip_cons_cons, List.zip_nil_left] at hx
    rw [List.mem_singleton.mp hx]
    exact ⟨a, b⟩
theorem w_drawPlace (G : Gx) (N : List Str) (hN : N.length = 6) {x0 : Str} (h0 : G.fns[0]? = some (x0, spBin fun x y => x + y)) {x1 : Str} (h1 : G.fns[1]? = some (x1, spBin fun x y => x * y)) {x2 : Str} (h2 : G.fns[2]? = some (x2, spLF)) {x3 : Str} (h3 : G.fns[3]? = some (x3, spBin fun x y => x - y)) {x4 : Str} (h4 : G.fns[4]? = some (x4, spPick)) (ts : List T) (S : Sto) (R : RP) (X : XP) (h : spDrawPlace ts S R X) : ts.length = 2 ∧ wS b_l_draw_place G (startE N ts) S { nx := fun _ S' => R .non S', rt := R, xx := fun _ => X } := by
  obtain ⟨s, c, rs, rfl, ln, hr, hs, k⟩ := h
  refine ⟨rfl, ?_⟩
  unfold startE
  rw [hN]
  show wS b_l_draw_place G [some (.ref s), some (.tup (rs.map lvT)), none, none, none, none] S _
  simp only [b_l_draw_place, b_l_draw_place_4, wS, sem, Sm.val, Sm.tst, Sm.arg, Sm.itr, boolOf, truthOf, gT, gTs, zipK, seqOf, lstOf, Co.sem, oInt, Bo.sem, oAdd, oSub, oMul, oDiv, oMod, Bf.sem, oLen, oAbs, oInt1, oGcd, oNeg, oIx, Mt.sem, List.getElem?_cons_zero, List.getElem?_cons_succ, List.set_cons_zero, List.set_cons_succ, setAll, frz_lst, frz_dct, tru_bl, tru_int, oEq_int, oEq_str, Bool.false_bne, Bool.true_bne, if_true, if_false, Bool.false_eq_true, reduceIte, Bool.not_true, Bool.not_false, List.cons.injEq, true_and, and_true, List.length_cons, List.length_nil, Option.some.injEq, exists_eq_left']
  refine ⟨by decide, fun p hp => ?_⟩
  obtain ⟨ns, nc⟩ := hs.ne hp
  simp only [b_l_draw_place_3, wS, sem, Sm.val, Sm.tst, Sm.arg, Sm.itr, boolOf, truthOf, gT, gTs, zipK, seqOf, lstOf, Co.sem, oInt, Bo.sem, oAdd, oSub, oMul, oDiv, oMod, Bf.sem, oLen, oAbs, oInt1, oGcd, oNeg, oIx, Mt.sem, List.getElem?_cons_zero, List.getElem?_cons_succ, List.set_cons_zero, List.set_cons_succ, setAll, frz_lst, frz_dct, tru_bl, tru_int, oEq_int, oEq_str, Bool.false_bne, Bool.true_bne, if_true, if_false, Bool.false_eq_true, reduceIte, Bool.not_true, Bool.not_false, List.cons.injEq, true_and, and_true, List.length_cons, List.length_nil, Option.some.injEq, exists_eq_left']
  refine wFor_by (fun i e S' => IsSrc S' s c ∧ KeptW S S' s c ∧ (∃ a b d, e = [some (.ref s), some (.tup (rs.map lvT)), some (.ref p), a, b, d]) ∧ ∃ zs : List Rat, InR (rs.take i) zs ∧ (∀ x ∈ zs, Sz 15 x) ∧ S' p = some (.lst (zs.map rT))) (fun _ _ _ _ => trivial) ?_ ?_ ⟨hs.put ns nc, KeptW.new hp, ⟨_, _, _, rfl⟩, [], ⟨rfl, by simp⟩, by simp, up_same⟩
  · rintro i t e S1 C ht ⟨hs1, k1, ⟨a, b, d, rfl⟩, zs, hz, sz, e1⟩ hC
    rw [List.getElem?_map] at ht
    obtain ⟨⟨lo, hi⟩, hx, rfl⟩ := Option.map_eq_some_iff.mp ht
    obtain ⟨s1, s2, lt⟩ := hr _ (List.mem_of_getElem? hx)
    simp only at s1 s2 lt
    simp only [lvT, b_l_draw_place_2, wS, sem, Sm.val, Sm.tst, Sm.arg, Sm.itr, boolOf, truthOf, gT, gTs, zipK, seqOf, lstOf, Co.sem, oInt, Bo.sem, oAdd, oSub, oMul, oDiv, oMod, Bf.sem, oLen, oAbs, oInt1, oGcd, oNeg, oIx, Mt.sem, List.getElem?_cons_zero, List.getElem?_cons_succ, List.set_cons_zero, List.set_cons_succ, setAll, frz_lst, frz_dct, tru_bl, tru_int, oEq_int, oEq_str, Bool.false_bne, Bool.true_bne, if_true, if_false, Bool.false_eq_true, reduceIte, Bool.not_true, Bool.not_false, List.cons.injEq, true_and, and_true, List.length_cons, List.length_nil, Option.some.injEq, exists_eq_left', h4]
    refine ⟨by decide, fun _ => pick_of hs1 (by omega) (by omega) fun j S2 j1 j2 hs2 k2 => ?_⟩
    obtain ⟨t, f1, f2⟩ := at_in (us := [T.int 0, T.int 6, T.int 3, T.int 1, T.int 2, T.int 4]) j1 j2
    obtain ⟨n, rfl, n0, n1⟩ : ∃ n : Int, t = .int n ∧ 0 ≤ n ∧ n ≤ 6 := by
      simp only [List.mem_cons, List.not_mem_nil, or_false] at f2
      rcases f2 with rfl | rfl | rfl | rfl | rfl | rfl <;> exact ⟨_, rfl, by omega, by omega⟩
    refine ⟨_, f1, ?_⟩
    simp only [b_l_draw_place_1, wS, sem, Sm.val, Sm.tst, Sm.arg, Sm.itr, boolOf, truthOf, gT, gTs, zipK, seqOf, lstOf, Co.sem, oInt, Bo.sem, oAdd, oSub, oMul, oDiv, oMod, Bf.sem, oLen, oAbs, oInt1, oGcd, oNeg, oIx, Mt.sem, List.getElem?_cons_zero, List.getElem?_cons_succ, List.set_cons_zero, List.set_cons_succ, setAll, frz_lst, frz_dct, tru_bl, tru_int, oEq_int, oEq_str, Bool.false_bne, Bool.true_bne, if_true, if_false, Bool.false_eq_true, reduceIte, Bool.not_true, Bool.not_false, List.cons.injEq, true_and, and_true, List.length_cons, List.length_nil, Option.some.injEq, exists_eq_left', h0, h1, h2, h3]
    have e2 : S2 p = some (.lst (zs.map rT)) := (k2 p ns nc).trans e1
    have sf : Sz 3 (Rat.divInt n 6) := sz_of (a := 6) (b := 6) (by omega) (by omega) (by omega) (by decide) (by decide)
    have sd := sz_add s2 (sz_neg s1)
    rw [← Rat.sub_eq_add_neg] at sd
    refine ⟨⟨p, _, rfl, e2⟩, hi, lo, rfl, s2.up (by omega), s1.up (by omega), n, 6, rfl, by omega, bt_small (k := 3) (by omega) (by omega), _, _, rfl, sd.up (by omega), sf.up (by omega), lo, _, rfl, s1.up (by omega), (sz_mul sd sf).up (by omega), ?_⟩
    simp only [oAppend, e2, List.length_map]
    have f0 : 0 ≤ Rat.divInt n 6 := Rat.divInt_nonneg n0 (by omega)
    have f1' : Rat.divInt n 6 ≤ 1 := by
      have : Rat.divInt n 6 ≤ Rat.divInt 1 1 := by
        have h := Rat.divInt_nonneg (a := 6 - n) (b := 6) (by omega) (by omega)
        have e := Rat.divInt_sub_divInt 1 n (d₁ := 1) (d₂ := 6) (by omega) (by omega)
        have e2 : Rat.divInt (1 * 6 - n * 1) (1 * 6) = Rat.divInt (6 - n) 6 := by congr 1; omega
        rw [e2] at e
        rw [Rat.le_iff_sub_nonneg, e]
        exact h
      exact this
    have dd : 0 ≤ hi - lo := by grind
    have m0 := Rat.mul_nonneg dd f0
    have m1 := Rat.mul_le_mul_of_nonneg_left f1' dd
    rw [Rat.mul_one] at m1
    have lz : zs.length < 1000 := by
      have := hz.1
      have := (List.getElem?_eq_some_iff.mp hx).1
      simp only [List.length_take] at *
      omega
    refine ⟨Nat.lt_of_lt_of_le lz (by decide), hC _ _ ⟨hs2.put ns nc, fun b o eb hb hb' => ?_, ⟨_, _, _, rfl⟩, zs ++ [lo + (hi - lo) * Rat.divInt n 6], ?_, fun x hx => ?_, ?_⟩⟩
    · have nb : b ≠ p := fun z => by rw [z, hp] at eb; cases eb
      rw [up_ne nb]
      exact k2.w b o (k1 b o eb hb hb') hb hb'
    · have e : rs.take (i + 1) = rs.take i ++ [(lo, hi)] := by rw [List.take_succ, hx]; rfl
      rw [e]
      exact inR_snoc hz (by show lo ≤ _; grind) (by show _ ≤ hi; grind)
    · rcases List.mem_append.mp hx with hx | hx
      · exact sz x hx
      · rw [List.mem_singleton.mp hx]
        exact (sz_add s1 (sz_mul sd sf)).up (by omega)
    · rw [up_same, List.map_append]
      rfl
  · rintro e S1 ⟨hs1, k1, ⟨a, b, d, rfl⟩, zs, hz, sz, e1⟩
    simp only [b_l_draw_place_0, wS, sem, Sm.val, Sm.tst, Sm.arg, Sm.itr, boolOf, truthOf, gT, gTs, zipK, seqOf, lstOf, Co.sem, oInt, Bo.sem, oAdd, oSub, oMul, oDiv, oMod, Bf.sem, oLen, oAbs, oInt1, oGcd, oNeg, oIx, Mt.sem, List.getElem?_cons_zero, List.getElem?_cons_succ, List.set_cons_zero, List.set_cons_succ, setAll, frz_lst, frz_dct, tru_bl, tru_int, oEq_int, oEq_str, Bool.false_bne, Bool.true_bne, if_true, if_false, Bool.false_eq_true, reduceIte, Bool.not_true, Bool.not_false, List.cons.injEq, true_and, and_true, List.length_cons, List.length_nil, Option.some.injEq, exists_eq_left', oTup, e1]
    rw [List.length_map, List.take_length] at hz
    exact k zs S1 hz sz hs1 k1
theorem or_rep {P : T → Prop} {t : T} {n : Nat} (h1 : 1 ≤ n) (h2 : n ≤ 1000) (k : P (.tup (List.replicate n t))) : ((n : Int) = 1 ∧ P (.tup [t])) ∨ ([t] ≠ [] ∧ 2 ≤ (n : Int) ∧ (n : Int) ≤ 1000 ∧ 0 + 1 ≤ 1000 ∧ P (.tup (List.replicate (n : Int).toNat [t]).flatten)) := by
  by_cases e : n = 1
  · subst e; exact .inl ⟨rfl, k⟩
  · refine .inr ⟨by simp, by omega, by omega, by omega, ?_⟩
    rw [Int.toNat_natCast, rep_one]
    exact k
theorem at_head {t : T} {ts : List T} : atT (t :: ts) 0 = some t := by
  unfold atT ixN
  simp
end TP

set_option maxHeartbeats 1000000
namespace TP
open PySem PySem.Spec PyProof.Rows L2

/-! ### drawn lists of rows, in any order -/
def b_l_any_order_0 : Stm := .cons (.ret (.lc [("_law_lap", 3)] (.nm 3) (.iR1 (.blt .len (.cons (.var 2) .nil))) (.mth .pop (.var 2) (.cons (.call 0 (.cons (.var 0) (.cons (.blt .len (.cons (.var 2) .nil)) .nil))) .nil)))) .nil
def b_l_any_order_1 : Stm := .cons (.asg (.nm 2) (.blt .list (.cons (.var 1) .nil))) b_l_any_order_0
def n_l_any_order : List Str := ["_law_source", "_law_things", "_law_spare", "_law_lap"]
abbrev b_l_any_order : Stm := b_l_any_order_1
def b_l_reached_0 : Stm := .cons (.ret (.var 3)) .nil
def b_l_reached_1 : Stm := .cons (.asg (.nm 3) (.call 0 (.cons (.var 3) (.cons (.call 1 (.cons (.var 4) (.cons (.var 5) .nil))) .nil)))) .nil
def b_l_reached_2 : Stm := .cons (.for_ (.tup (.cons (.nm 4) (.cons (.nm 5) .nil))) (.iZ (.var 0) (.var 1)) b_l_reached_1) b_l_reached_0
def b_l_reached_3 : Stm := .cons (.asg (.nm 3) (.blt .tuple (.cons (.frz (.bin .mul (.frz (.lst (.cons (.tup (.cons (.int 0) (.cons (.int 1) .nil))) .nil))) (.var 2))) .nil))) b_l_reached_2
def n_l_reached : List Str := ["_law_columns", "_law_amounts", "_law_many", "_law_found", "_law_one", "_law_x"]
abbrev b_l_reached : Stm := b_l_reached_3
def b_l_draw_rows_0 : Stm := .cons (.ret (.call 0 (.cons (.var 0) (.cons (.var 4) .nil)))) .nil
def b_l_draw_rows_1 : Stm := .cons (.expr (.mth .append (.var 4) (.cons (.call 1 (.cons (.call 2 (.cons (.var 4) (.cons (.var 6) (.cons (.var 1) .nil)))) (.cons (.tup (.cons (.bin .sub (.int 0) (.int 1)) (.cons (.int 1) .nil))) .nil))) .nil))) .nil
def b_l_draw_rows_2 : Stm := .cons (.asg (.nm 6) (.frz (.lc [("_law_one", 8)] (.nm 8) (.iA (.var 4)) (.tup (.cons (.bin .add (.int 1) (.call 3 (.cons (.var 0) (.cons (.int 2) .nil)))) (.cons (.int 1) .nil)))))) b_l_draw_rows_1
def b_l_draw_rows_3 : Stm := .cons (.subL (.var 4) (.int 0) (.ix (.var 4) (.neg (.int 1)))) .nil
def b_l_draw_rows_4 : Stm := .cons (.subL (.var 4) (.call 3 (.cons (.var 0) (.cons (.blt .len (.cons (.var 4) .nil)) .nil))) (.blt .tuple (.cons (.frz (.bin .mul (.frz (.lst (.cons (.tup (.cons (.int 0) (.cons (.int 1) .nil))) .nil))) (.var 1))) .nil))) .nil
def b_l_draw_rows_5 : Stm := .cons (.ifs (.cmp .eq (.var 5) (.int 3)) b_l_draw_rows_4 .nil) .nil
def b_l_draw_rows_6 : Stm := .cons (.ifs (.cmp .eq (.var 5) (.int 2)) b_l_draw_rows_3 b_l_draw_rows_5) .nil
def b_l_draw_rows_7 : Stm := .cons (.ifs (.and (.cmp .lt (.var 5) (.int 2)) (.one (.cmp .lt (.blt .len (.cons (.var 4) .nil)) (.var 2)))) b_l_draw_rows_2 b_l_draw_rows_6) b_l_draw_rows_0
def b_l_draw_rows_8 : Stm := .cons (.asg (.nm 5) (.call 3 (.cons (.var 0) (.cons (.int 6) .nil)))) b_l_draw_rows_7
def b_l_draw_rows_9 : Stm := .cons (.asg (.nm 4) (.lc [("_law_lap", 7)] (.nm 7) (.iR1 (.bin .add (.int 1) (.call 3 (.cons (.var 0) (.cons (.var 2) .nil))))) (.call 4 (.cons (.var 0) (.cons (.var 1) (.cons (.var 3) .nil)))))) b_l_draw_rows_8
def n_l_draw_rows : List Str := ["_law_source", "_law_many", "_law_most", "_law_wide", "_law_rows", "_law_road", "_law_some", "_law_lap", "_law_one"]
abbrev b_l_draw_rows : Stm := b_l_draw_rows_9
def b_l_draw_rates_0 : Stm := .cons (.ret (.frz (.var 2))) .nil
def b_l_draw_rates_1 : Stm := .cons (.expr (.mth .append (.var 2) (.cons (.blt .tuple (.cons (.frz (.lc [("_law_k", 6)] (.nm 6) (.iR1 (.var 1)) (.ife (.cmp .eq (.var 6) (.var 4)) (.var 5) (.tup (.cons (.int 0) (.cons (.int 1) .nil)))))) .nil)) .nil))) .nil
def b_l_draw_rates_2 : Stm := .cons (.asg (.tup (.cons (.nm 4) (.cons (.nm 5) .nil))) (.tup (.cons (.call 0 (.cons (.var 0) (.cons (.var 1) .nil))) (.cons (.ix (.frz (.lst (.cons (.tup (.cons (.int 1) (.cons (.int 1) .nil))) (.cons (.tup (.cons (.bin .sub (.int 0) (.int 1)) (.cons (.int 1) .nil))) (.cons (.tup (.cons (.int 1) (.cons (.int 2) .nil))) .nil))))) (.call 0 (.cons (.var 0) (.cons (.int 3) .nil)))) .nil)))) b_l_draw_rates_1
def b_l_draw_rates_3 : Stm := .cons (.for_ (.nm 3) (.iR1 (.call 0 (.cons (.var 0) (.cons (.int 3) .nil)))) b_l_draw_rates_2) b_l_draw_rates_0
def b_l_draw_rates_4 : Stm := .cons (.asg (.nm 2) (.call 1 (.cons (.var 0) (.cons (.var 1) (.cons (.int 4) (.cons (.int 2) .nil)))))) b_l_draw_rates_3
def n_l_draw_rates : List Str := ["_law_source", "_law_many", "_law_rates", "_law_lap", "_law_i", "_law_x", "_law_k"]
abbrev b_l_draw_rates : Stm := b_l_draw_rates_4

def n_l_draw_lot : List Str := ["_law_source", "_law_many", "_law_k"]
abbrev b_l_draw_lot : Stm := (.cons (.ret (.frz (.call 0 (.cons (.var 0) (.cons (.frz (.lci [("_law_k", 2)] (.nm 2) (.iR1 (.var 1)) (.cmp .gt (.call 1 (.cons (.var 0) (.cons (.int 3) .nil))) (.int 0)) (.var 2))) .nil))))) .nil)
theorem zip_tup {S : Sto} {ts us : List T} {R : List T → (Sto → Prop) → Sto → Prop} : zipK S (.tup ts) (.tup us) R = R ((ts.zip us).map fun p => .tup [p.1, p.2]) (fun _ => True) S := rfl
theorem seq_lst {S : Sto} {ts : List T} : seqOf S (.lst ts) = some ts := rfl
theorem seq_tup {S : Sto} {ts : List T} : seqOf S (.tup ts) = some ts := rfl
theorem lst_lst {S : Sto} {ts : List T} : lstOf S (.lst ts) = some ts := rfl
theorem seq_ref {S : Sto} {a : Addr} {ts : List T} (e : S a = some (.lst ts)) : seqOf S (.ref a) = some ts := by simp only [seqOf, e]
theorem lst_ref {S : Sto} {a : Addr} {ts : List T} (e : S a = some (.lst ts)) : lstOf S (.ref a) = some ts := by simp only [lstOf, e]
theorem gd_of {S : Sto} {x : T} {ts : List T} (h : seqOf S x = some ts) : gdOf S x S := by
  cases x <;> try trivial
  case ref a =>
    simp only [seqOf] at h
    split at h
    · rename_i e; simp only [gdOf, e]
    · cases h
theorem wLc_filter {α : Type} {own : List Nat} {g : Tg} {c : WT1} {el : WE1} {gd : Sto → Prop} {env : Env} {S : Sto} {R : List T → Sto → Prop} (tof res : α → T) (p : α → Bool) (hg : gd S) : ∀ {vs : List α} {acc : List T}, acc.length + vs.length < sizeLine →
    (∀ v ∈ vs, ∀ (C1 : RP) (C0 : Sto → Prop), (p v = true → C1 (res v) S) → (p v = false → C0 S) → gT g (tof v) (wipeE env own) S fun env' => c env' S (fun b S1 => if b = true then el env' S1 C1 (fun _ _ => False) else C0 S1) fun _ _ => False) →
    R (acc ++ (vs.filter p).map res) S → wLc own g c el gd env (vs.map tof) acc S R := by
  intro vs
  induction vs with
  | nil => intro acc _ _ k; exact ⟨hg, by simpa using k⟩
  | cons v vs ih =>
    intro acc hl h k
    refine ⟨hg, by simp at hl; omega, h v (by simp) _ _ (fun e => ih (by simp at hl ⊢; omega) (fun u hu => h u (by simp [hu])) ?_) fun e => ih (by simp at hl ⊢; omega) (fun u hu => h u (by simp [hu])) ?_⟩
    · rw [List.filter_cons, if_pos e] at k
      simpa using k
    · rw [List.filter_cons, if_neg (by simp [e])] at k
      exact k
theorem wLci_by {own : List Nat} {g : Tg} {c : WT1} {el : WE1} {gd : Sto → Prop} {env : Env} {R : List T → Sto → Prop} (I : Nat → List T → Sto → Prop) (hg : ∀ i acc S, I i acc S → gd S) (hR : ∀ i acc S, I i acc S → acc.length < sizeLine) {ts : List T}
    (step : ∀ i t acc S (C1 : RP) (C0 : Sto → Prop), ts[i]? = some t → I i acc S → (∀ r S2, I (i + 1) (acc ++ [r]) S2 → C1 r S2) → (∀ S2, I (i + 1) acc S2 → C0 S2) → gT g t (wipeE env own) S fun env' => c env' S (fun b S1 => if b = true then el env' S1 C1 (fun _ _ => False) else C0 S1) fun _ _ => False)
    (fin : ∀ acc S, I ts.length acc S → R acc S) {S : Sto} (h0 : I 0 [] S) : wLc own g c el gd env ts [] S R := by
  have key : ∀ (us : List T) (n : Nat) (acc : List T) (S : Sto), n ≤ ts.length → ts.drop n = us → I n acc S → wLc own g c el gd env us acc S R := by
    intro us
    induction us with
    | nil =>
      intro n acc S l e h
      have q : n = ts.length := by
        have := congrArg List.length e
        simp at this
        omega
      subst q
      exact ⟨hg _ _ _ h, fin _ _ h⟩
    | cons u us ih =>
      intro n acc S _ e h
      have hn : n < ts.length := by
        have := congrArg List.length e
        simp at this
        omega
      have e1 : ts[n]? = some u := by
        rw [List.getElem?_eq_getElem hn]
        rw [List.drop_eq_getElem_cons hn] at e
        exact congrArg some (List.cons.inj e).1
      have e2 : ts.drop (n + 1) = us := by
        rw [List.drop_eq_getElem_cons hn] at e
        exact (List.cons.inj e).2
      exact ⟨hg _ _ _ h, hR _ _ _ h, step n u acc S _ _ e1 h (fun r S2 h' => ih (n + 1) _ S2 hn e2 h') fun S2 h' => ih (n + 1) _ S2 hn e2 h'⟩
  exact key ts 0 [] S (by simp) (by simp) h0
theorem en_map {α : Type} (f : α → T) (rs : List α) : ((rs.map f).mapIdx fun i t => T.tup [.int (i : Nat), t]) = rs.zipIdx.map fun p => .tup [.int (p.2 : Nat), f p.1] := by
  rw [List.mapIdx_eq_zipIdx_map, List.zipIdx_map, List.map_map]
  rfl
theorem seqIndex_nat {i : Int} {n : Nat} (a : 0 ≤ i) (b : i < n) : seqIndex? i n = some i.toNat := by
  unfold seqIndex?
  have h : ¬ i < 0 := by omega
  simp only [h, if_false]
  rw [if_pos (by simp [a, b])]
theorem IsSrc.some {S : Sto} {s c : Addr} (h : IsSrc S s c) : (∃ x, S s = some x) ∧ ∃ x, S c = some x := by
  obtain ⟨l, m, t, cs, e1, e2, _⟩ := h
  exact ⟨⟨_, e1⟩, ⟨_, e2⟩⟩
/-- what is new behind a draw was new ahead of it -/
theorem KeptW.non {S S' : Sto} {s c p : Addr} (k : KeptW S S' s c) (hs : IsSrc S' s c) (n : S' p = none) : S p = none := by
  cases e : S p with
  | none => rfl
  | some x =>
    obtain ⟨⟨a, ea⟩, ⟨b, eb⟩⟩ := hs.some
    by_cases h1 : p = s
    · rw [h1, ea] at n; cases n
    · by_cases h2 : p = c
      · rw [h2, eb] at n; cases n
      · rw [k p x e h1 h2] at n; cases n
theorem perm_erase {α : Type} : ∀ (l : List α) (i : Nat) (h : i < l.length), List.Perm (l[i] :: l.eraseIdx i) l
  | a :: l, 0, _ => List.Perm.refl _
  | a :: l, i + 1, h => by
    have ih := perm_erase l i (by simpa using h)
    exact (List.Perm.swap a (l[i]'(by simpa using h)) (l.eraseIdx i)).trans (ih.cons a)
/-- a list told: a new one -/
def spAnyOrder : TSp := fun ts S R X => ∃ s c x us, ts = [.ref s, x] ∧ seqOf S x = some us ∧ IsSrc S s c ∧ us.length ≤ 1000 ∧ ∀ vs p S', List.Perm vs us → S p = none → S' p = some (.lst vs) → IsSrc S' s c → KeptW S S' s c → R (.ref p) S'
theorem w_anyOrder (G : Gx) (N : List Str) (hN : N.length = 4) {x0 : Str} (h0 : G.fns[0]? = some (x0, spPick)) (ts : List T) (S : Sto) (R : RP) (X : XP) (h : spAnyOrder ts S R X) : ts.length = 2 ∧ wS b_l_any_order G (startE N ts) S { nx := fun _ S' => R .non S', rt := R, xx := fun _ => X } := by
  obtain ⟨s, c, x, us, rfl, hx, hs, lu, k⟩ := h
  refine ⟨rfl, ?_⟩
  unfold startE
  rw [hN]
  show wS b_l_any_order G [some (.ref s), some x, none, none] S _
  simp only [b_l_any_order, b_l_any_order_1, wS, sem, Sm.val, Sm.tst, Sm.arg, Sm.itr, boolOf, truthOf, gT, gTs, zip_tup, seq_lst, seq_tup, lst_lst, Co.sem, oInt, Bo.sem, oAdd, oSub, oMul, oDiv, oMod, Bf.sem, oLen, oAbs, oInt1, oGcd, oNeg, oIx, Mt.sem, List.getElem?_cons_zero, List.getElem?_cons_succ, List.set_cons_zero, List.set_cons_succ, setAll, frz_lst, frz_dct, tru_bl, tru_int, oEq_int, oEq_str, Bool.false_bne, Bool.true_bne, if_true, if_false, Bool.false_eq_true, reduceIte, Bool.not_true, Bool.not_false, List.cons.injEq, true_and, and_true, List.length_cons, List.length_nil, Option.some.injEq, exists_eq_left', oList, hx, h0]
  intro q hq
  obtain ⟨ns, nc⟩ := hs.ne hq
  simp only [b_l_any_order_0, wS, sem, Sm.val, Sm.tst, Sm.arg, Sm.itr, boolOf, truthOf, gT, gTs, zipK, seqOf, lstOf, Co.sem, oInt, Bo.sem, oAdd, oSub, oMul, oDiv, oMod, Bf.sem, oLen, oAbs, oInt1, oGcd, oNeg, oIx, Mt.sem, List.getElem?_cons_zero, List.getElem?_cons_succ, List.set_cons_zero, List.set_cons_succ, setAll, frz_lst, frz_dct, tru_bl, tru_int, oEq_int, oEq_str, Bool.false_bne, Bool.true_bne, if_true, if_false, Bool.false_eq_true, reduceIte, Bool.not_true, Bool.not_false, List.cons.injEq, true_and, and_true, List.length_cons, List.length_nil, Option.some.injEq, exists_eq_left', up_same]
  refine ⟨by omega, ?_⟩
  refine wLc_by (fun acc S' => IsSrc S' s c ∧ KeptW S S' s c ∧ acc.length ≤ 1000 ∧ ∃ rest, S' q = some (.lst rest) ∧ List.Perm (acc ++ rest) us) (fun _ _ _ => trivial) (fun acc _ h => Nat.lt_of_le_of_lt h.2.2.1 (by decide)) ?_ ?_ ⟨hs.put ns nc, KeptW.new hq, by simp, us, up_same, List.Perm.refl _⟩
  · rintro t acc S1 C ht ⟨hs1, k1, l1, rest, e1, pm⟩ hlt hC
    have ln := pm.length_eq
    simp only [List.length_append, List.length_map, List.length_range] at ln hlt
    simp only [wS, sem, Sm.val, Sm.tst, Sm.arg, Sm.itr, boolOf, truthOf, gT, gTs, zipK, seqOf, lstOf, Co.sem, oInt, Bo.sem, oAdd, oSub, oMul, oDiv, oMod, Bf.sem, oLen, oAbs, oInt1, oGcd, oNeg, oIx, Mt.sem, List.getElem?_cons_zero, List.getElem?_cons_succ, List.set_cons_zero, List.set_cons_succ, setAll, frz_lst, frz_dct, tru_bl, tru_int, oEq_int, oEq_str, Bool.false_bne, Bool.true_bne, if_true, if_false, Bool.false_eq_true, reduceIte, Bool.not_true, Bool.not_false, List.cons.injEq, true_and, and_true, List.length_cons, List.length_nil, Option.some.injEq, exists_eq_left', wipeE, List.map_cons, List.map_nil, e1, h0]
    refine ⟨⟨q, rest, rfl, e1⟩, pick_of hs1 (by omega) (by omega) fun i S2 i1 i2 hs2 k2 => ?_⟩
    have e2 : S2 q = some (.lst rest) := (k2 q ns nc).trans e1
    have hi : i.toNat < rest.length := by omega
    simp only [oPop, e2]
    refine ⟨i.toNat, rest[i.toNat], by omega, seqIndex_nat i1 i2, List.getElem?_eq_getElem hi, hC _ _ ⟨hs2.put ns nc, fun b o eb hb hb' => ?_, by simp; omega, rest.eraseIdx i.toNat, up_same, ?_⟩⟩
    · have nb : b ≠ q := fun z => by rw [z, hq] at eb; cases eb
      rw [up_ne nb]
      exact k2.w b o (k1 b o eb hb hb') hb hb'
    · refine List.Perm.trans ?_ pm
      rw [List.append_assoc]
      refine List.Perm.append_left _ ?_
      rw [List.singleton_append]
      exact perm_erase rest i.toNat hi
  · rintro acc S1 ⟨hs1, k1, l1, rest, e1, pm⟩ hlen p hp
    simp only [List.length_map, List.length_range] at hlen
    have ln := pm.length_eq
    simp only [List.length_append] at ln
    have : rest = [] := List.length_eq_zero_iff.mp (by omega)
    subst this
    rw [List.append_nil] at pm
    obtain ⟨ps, pc⟩ := hs1.ne hp
    refine k acc p _ pm (k1.non hs1 hp) up_same (hs1.put ps pc) fun b o eb hb hb' => ?_
    have nb : b ≠ p := fun z => by
      have := k1 b o eb hb hb'
      rw [z, hp] at this; cases this
    rw [up_ne nb]
    exact k1 b o eb hb hb'
/-! ### rows of a length, of a size -/
def RowN (n k : Nat) (r : List Rat) : Prop := r.length = n ∧ ∀ q ∈ r, Sz k q
theorem RowN.up {n k m : Nat} {r : List Rat} (h : RowN n k r) (l : k ≤ m) : RowN n m r := ⟨h.1, fun q hq => (h.2 q hq).up l⟩
theorem rowN_zero (n : Nat) : RowN n 1 (List.replicate n 0) := ⟨by simp, fun z hz => by rw [(List.mem_replicate.mp hz).2]; exact sz_zero⟩
def addR (xs ys : List Rat) : List Rat := (xs.zip ys).map fun p => p.1 + p.2
def mulR (xs : List Rat) (q : Rat) : List Rat := xs.map fun x => x * q
theorem rowN_add {n k m : Nat} {xs ys : List Rat} (hx : RowN n k xs) (hy : RowN n m ys) : RowN n (k + m + 1) (addR xs ys) := by
  refine ⟨by unfold addR; rw [List.length_map, List.length_zip, hx.1, hy.1]; omega, fun q hq => ?_⟩
  obtain ⟨⟨a, b⟩, hp, rfl⟩ := List.mem_map.mp hq
  obtain ⟨m1, m2⟩ := List.of_mem_zip hp
  exact sz_add (hx.2 a m1) (hy.2 b m2)
theorem rowN_mul {n k m : Nat} {xs : List Rat} {q : Rat} (hx : RowN n k xs) (hq : Sz m q) : RowN n (k + m) (mulR xs q) := by
  refine ⟨by unfold mulR; rw [List.length_map]; exact hx.1, fun z hz => ?_⟩
  obtain ⟨x, hx', rfl⟩ := List.mem_map.mp hz
  exact sz_mul (hx.2 x hx') hq
/-- columns times amounts, added -/
def reachR (n : Nat) : List (List Rat × Rat) → List Rat
  | [] => List.replicate n 0
  | ps => ps.foldl (fun f p => addR f (mulR p.1 p.2)) (List.replicate n 0)
theorem reach_fold (n : Nat) (ps : List (List Rat × Rat)) : reachR n ps = ps.foldl (fun f p => addR f (mulR p.1 p.2)) (List.replicate n 0) := by
  cases ps <;> rfl
theorem rowN_fold {n k m : Nat} : ∀ (ps : List (List Rat × Rat)) (f : List Rat) (j : Nat), (∀ p ∈ ps, RowN n k p.1 ∧ Sz m p.2) → RowN n j f → RowN n (j + (k + m + 1) * ps.length) (ps.foldl (fun f p => addR f (mulR p.1 p.2)) f)
  | [], f, j, _, hf => by simpa using hf
  | p :: ps, f, j, h, hf => by
    have h1 := rowN_fold ps (addR f (mulR p.1 p.2)) (j + (k + m) + 1) (fun q hq => h q (by simp [hq])) (rowN_add hf (rowN_mul (h p (by simp)).1 (h p (by simp)).2))
    rw [List.foldl_cons]
    refine h1.up ?_
    rw [List.length_cons, Nat.mul_add]
    omega
theorem rowN_reach {n k m : Nat} {ps : List (List Rat × Rat)} (h : ∀ p ∈ ps, RowN n k p.1 ∧ Sz m p.2) : RowN n (1 + (k + m + 1) * ps.length) (reachR n ps) := by
  rw [reach_fold]
  exact rowN_fold ps _ 1 h (rowN_zero n)
def spReached : TSp := fun ts S R X => ∃ (x y : T) (cs : List (List Rat)) (as : List Rat) (n k m : Nat), ts = [x, y, .int n] ∧ seqOf S x = some (cs.map rowT) ∧ seqOf S y = some (as.map rT) ∧ 1 ≤ n ∧ n ≤ 1000 ∧ (∀ r ∈ cs, RowN n k r) ∧ (∀ a ∈ as, Sz m a) ∧ 1 + (k + m + 1) * (cs.zip as).length ≤ 1400 ∧ k ≤ 1400 ∧ m ≤ 1400 ∧ R (rowT (reachR n (cs.zip as))) S
theorem zip_of {S : Sto} {R : List T → (Sto → Prop) → Sto → Prop} {x y : T} {ts us : List T} (hx : seqOf S x = some ts) (hy : seqOf S y = some us)
    (k : ∀ gd : Sto → Prop, gd S → R ((ts.zip us).map fun p => .tup [p.1, p.2]) gd S) : zipK S x y R := by
  unfold zipK
  split
  · cases hx; cases hy; exact k _ trivial
  · rw [hx, hy]
    exact k _ ⟨gd_of hx, gd_of hy⟩
theorem at_last {ts : List T} (h : 0 < ts.length) : atT ts (-1) = ts[ts.length - 1]? := by
  unfold atT ixN
  have e : ((-1 : Int) + (ts.length : Int)).toNat = ts.length - 1 := by omega
  simp only [show ¬ (0 ≤ (-1 : Int)) by omega, if_false]
  rw [if_pos (by omega)]
  show ts[_]? = _
  congr 1
theorem row_zero {n : Nat} : (.tup (List.replicate n (T.tup [.int 0, .int 1])) : T) = rowT (List.replicate n 0) := rep_row n
theorem w_reached (G : Gx) (N : List Str) (hN : N.length = 6) {x0 : Str} (h0 : G.fns[0]? = some (x0, spRow2 fun x y => x + y)) {x1 : Str} (h1 : G.fns[1]? = some (x1, spScale)) (ts : List T) (S : Sto) (R : RP) (X : XP) (h : spReached ts S R X) : ts.length = 3 ∧ wS b_l_reached G (startE N ts) S { nx := fun _ S' => R .non S', rt := R, xx := fun _ => X } := by
  obtain ⟨x, y, cs, as, n, kk, m, rfl, hx, hy, n1, n2, hc, ha, lz, lk, lm, k⟩ := h
  refine ⟨rfl, ?_⟩
  unfold startE
  rw [hN]
  show wS b_l_reached G [some x, some y, some (.int n), none, none, none] S _
  simp only [b_l_reached, b_l_reached_3, wS, sem, Sm.val, Sm.tst, Sm.arg, Sm.itr, boolOf, truthOf, gT, gTs, zip_tup, seq_lst, seq_tup, lst_lst, Co.sem, oInt, Bo.sem, oAdd, oSub, oMul, oDiv, oMod, Bf.sem, oLen, oAbs, oInt1, oGcd, oNeg, oIx, Mt.sem, List.getElem?_cons_zero, List.getElem?_cons_succ, List.set_cons_zero, List.set_cons_succ, setAll, frz_lst, frz_dct, tru_bl, tru_int, oEq_int, oEq_str, Bool.false_bne, Bool.true_bne, if_true, if_false, Bool.false_eq_true, reduceIte, Bool.not_true, Bool.not_false, List.cons.injEq, true_and, and_true, List.length_cons, List.length_nil, Option.some.injEq, exists_eq_left']
  refine ⟨by decide, by decide, fun _ => ⟨⟨by omega, by omega, ?_⟩, fun _ => ?_⟩⟩
  · rw [Int.toNat_natCast]; exact Nat.le_trans (show 1 * n ≤ 1000 by omega) (by decide)
  rw [Int.toNat_natCast, rep_one]
  simp only [oTup, wS, sem, Sm.val, Sm.tst, Sm.arg, Sm.itr, boolOf, truthOf, gT, gTs, zip_tup, seq_lst, seq_tup, lst_lst, Co.sem, oInt, Bo.sem, oAdd, oSub, oMul, oDiv, oMod, Bf.sem, oLen, oAbs, oInt1, oGcd, oNeg, oIx, Mt.sem, List.getElem?_cons_zero, List.getElem?_cons_succ, List.set_cons_zero, List.set_cons_succ, setAll, frz_lst, frz_dct, tru_bl, tru_int, oEq_int, oEq_str, Bool.false_bne, Bool.true_bne, if_true, if_false, Bool.false_eq_true, reduceIte, Bool.not_true, Bool.not_false, List.cons.injEq, true_and, and_true, List.length_cons, List.length_nil, Option.some.injEq, exists_eq_left']
  rw [row_zero]
  simp only [b_l_reached_2, wS, sem, Sm.val, Sm.tst, Sm.arg, Sm.itr, boolOf, truthOf, gT, gTs, zip_tup, seq_lst, seq_tup, lst_lst, Co.sem, oInt, Bo.sem, oAdd, oSub, oMul, oDiv, oMod, Bf.sem, oLen, oAbs, oInt1, oGcd, oNeg, oIx, Mt.sem, List.getElem?_cons_zero, List.getElem?_cons_succ, List.set_cons_zero, List.set_cons_succ, setAll, frz_lst, frz_dct, tru_bl, tru_int, oEq_int, oEq_str, Bool.false_bne, Bool.true_bne, if_true, if_false, Bool.false_eq_true, reduceIte, Bool.not_true, Bool.not_false, List.cons.injEq, true_and, and_true, List.length_cons, List.length_nil, Option.some.injEq, exists_eq_left']
  refine zip_of hx hy fun gd hg => ?_
  rw [zip_tt rowT rT cs as]
  refine wFor_by (fun i e S' => S' = S ∧ ∃ a b, e = [some x, some y, some (.int n), some (rowT (reachR n ((cs.zip as).take i))), a, b]) (fun _ _ _ h => by rw [h.1]; exact hg) ?_ ?_ ⟨rfl, _, _, rfl⟩
  · rintro i t e S1 C ht ⟨rfl, a, b, rfl⟩ hC
    rw [List.getElem?_map] at ht
    obtain ⟨⟨r, q⟩, hp, rfl⟩ := Option.map_eq_some_iff.mp ht
    obtain ⟨m1, m2⟩ := List.of_mem_zip (List.mem_of_getElem? hp)
    have hr := hc r m1
    have hq := ha q m2
    have hi := (List.getElem?_eq_some_iff.mp hp).1
    have hrow : RowN n (1 + (kk + m + 1) * ((cs.zip as).take i).length) (reachR n ((cs.zip as).take i)) := rowN_reach fun p hp => by
      obtain ⟨m1, m2⟩ := List.of_mem_zip (List.mem_of_mem_take (show (p.1, p.2) ∈ (cs.zip as).take i from hp))
      exact ⟨hc _ m1, ha _ m2⟩
    have lt : (kk + m + 1) * ((cs.zip as).take i).length ≤ (kk + m + 1) * (cs.zip as).length := Nat.mul_le_mul_left _ (by rw [List.length_take]; omega)
    simp only [b_l_reached_1, wS, sem, Sm.val, Sm.tst, Sm.arg, Sm.itr, boolOf, truthOf, gT, gTs, zip_tup, seq_lst, seq_tup, lst_lst, Co.sem, oInt, Bo.sem, oAdd, oSub, oMul, oDiv, oMod, Bf.sem, oLen, oAbs, oInt1, oGcd, oNeg, oIx, Mt.sem, List.getElem?_cons_zero, List.getElem?_cons_succ, List.set_cons_zero, List.set_cons_succ, setAll, frz_lst, frz_dct, tru_bl, tru_int, oEq_int, oEq_str, Bool.false_bne, Bool.true_bne, if_true, if_false, Bool.false_eq_true, reduceIte, Bool.not_true, Bool.not_false, List.cons.injEq, true_and, and_true, List.length_cons, List.length_nil, Option.some.injEq, exists_eq_left', h0, h1]
    refine ⟨r, q, rfl, fun z hz => (hr.2 z hz).up (by omega), hq.up (by omega), by rw [hr.1]; omega, _, _, rfl, fun z hz => (hrow.2 z hz).up (by omega), fun z hz => ((rowN_mul hr hq).2 z hz).up (by omega), by rw [hrow.1]; omega, hC _ _ ⟨rfl, some (rowT r), some (rT q), ?_⟩⟩
    have tk : (cs.zip as).take (i + 1) = (cs.zip as).take i ++ [(r, q)] := by rw [List.take_succ, hp]; rfl
    rw [tk, reach_fold n (_ ++ _), List.foldl_append, ← reach_fold]
    rfl
  · rintro e S1 ⟨rfl, a, b, rfl⟩
    simp only [b_l_reached_0, wS, sem, Sm.val, Sm.tst, Sm.arg, Sm.itr, boolOf, truthOf, gT, gTs, zip_tup, seq_lst, seq_tup, lst_lst, Co.sem, oInt, Bo.sem, oAdd, oSub, oMul, oDiv, oMod, Bf.sem, oLen, oAbs, oInt1, oGcd, oNeg, oIx, Mt.sem, List.getElem?_cons_zero, List.getElem?_cons_succ, List.set_cons_zero, List.set_cons_succ, setAll, frz_lst, frz_dct, tru_bl, tru_int, oEq_int, oEq_str, Bool.false_bne, Bool.true_bne, if_true, if_false, Bool.false_eq_true, reduceIte, Bool.not_true, Bool.not_false, List.cons.injEq, true_and, and_true, List.length_cons, List.length_nil, Option.some.injEq, exists_eq_left']
    rw [List.length_map, List.take_length]
    exact k
/-- rows drawn, put in any order, some alike, nought, or such as bring others back -/
def spDrawRows : TSp := fun ts S R X => ∃ s c, ∃ n most w : Nat, ts = [.ref s, .int n, .int most, .int w] ∧ 1 ≤ n ∧ n ≤ 12 ∧ 1 ≤ most ∧ most ≤ 8 ∧ w ≤ 20 ∧ IsSrc S s c ∧ ∀ (rs : List (List Rat)) p S', 1 ≤ rs.length → rs.length ≤ most → (∀ r ∈ rs, RowN n 200 r) → S p = none → S' p = some (.lst (rs.map rowT)) → IsSrc S' s c → KeptW S S' s c → R (.ref p) S'
theorem small_row {n w k : Nat} {qs : List Rat} (l : qs.length = n) (h : ∀ q ∈ qs, Small w q) (lw : w < 2 ^ k) (l2 : 2 ≤ k) : RowN n k qs := ⟨l, fun q hq => small_sz (h q hq) lw l2⟩
theorem perm_map {α β : Type} (f : α → β) : ∀ {us : List α} {ts : List β}, List.Perm ts (us.map f) → ∃ vs, ts = vs.map f ∧ List.Perm vs us := by
  intro us ts h
  have hm : ∀ t ∈ ts, ∃ u ∈ us, f u = t := fun t ht => List.mem_map.mp (h.mem_iff.mp ht)
  clear hm
  generalize e : us.map f = l at h
  induction h generalizing us with
  | nil =>
    have := List.map_eq_nil_iff.mp e
    subst this
    exact ⟨[], rfl, List.Perm.refl _⟩
  | cons a _ ih =>
    cases us with
    | nil => cases e
    | cons u us =>
      simp only [List.map_cons, List.cons.injEq] at e
      obtain ⟨vs, e1, e2⟩ := ih e.2
      exact ⟨u :: vs, by rw [e1, ← e.1]; rfl, e2.cons u⟩
  | swap a b l =>
    cases us with
    | nil => cases e
    | cons u us => cases us with
      | nil => cases e
      | cons v us =>
        simp only [List.map_cons, List.cons.injEq] at e
        exact ⟨v :: u :: us, by rw [← e.1, ← e.2.1, ← e.2.2]; rfl, List.Perm.swap u v us⟩
  | trans _ _ ih1 ih2 =>
    obtain ⟨vs, e1, p1⟩ := ih2 e
    obtain ⟨ws, e2, p2⟩ := ih1 e1.symm
    exact ⟨ws, e2, p2.trans p1⟩
theorem w_drawRows (G : Gx) (N : List Str) (hN : N.length = 9) {x0 : Str} (h0 : G.fns[0]? = some (x0, spAnyOrder)) {x1 : Str} (h1 : G.fns[1]? = some (x1, spScale)) {x2 : Str} (h2 : G.fns[2]? = some (x2, spReached)) {x3 : Str} (h3 : G.fns[3]? = some (x3, spPick)) {x4 : Str} (h4 : G.fns[4]? = some (x4, spDrawRow)) (ts : List T) (S : Sto) (R : RP) (X : XP) (h : spDrawRows ts S R X) : ts.length = 4 ∧ wS b_l_draw_rows G (startE N ts) S { nx := fun _ S' => R .non S', rt := R, xx := fun _ => X } := by
  obtain ⟨s, c, n, most, w, rfl, n1, n2, m1, m2, lw, hs, k⟩ := h
  refine ⟨rfl, ?_⟩
  unfold startE
  rw [hN]
  show wS b_l_draw_rows G [some (.ref s), some (.int n), some (.int most), some (.int w), none, none, none, none, none] S _
  simp only [b_l_draw_rows, b_l_draw_rows_9, wS, sem, Sm.val, Sm.tst, Sm.arg, Sm.itr, boolOf, truthOf, gT, gTs, zip_tup, seq_lst, seq_tup, lst_lst, Co.sem, oInt, Bo.sem, oAdd, oSub, oMul, oDiv, oMod, Bf.sem, oLen, oAbs, oInt1, oGcd, oNeg, oIx, Mt.sem, List.getElem?_cons_zero, List.getElem?_cons_succ, List.set_cons_zero, List.set_cons_succ, setAll, frz_lst, frz_dct, tru_bl, tru_int, oEq_int, oEq_str, Bool.false_bne, Bool.true_bne, if_true, if_false, Bool.false_eq_true, reduceIte, Bool.not_true, Bool.not_false, List.cons.injEq, true_and, and_true, List.length_cons, List.length_nil, Option.some.injEq, exists_eq_left', h3, h4]
  refine pick_of hs (by omega) (by omega) fun i S1 i1 i2 hs1 k1 => ?_
  refine ⟨by omega, ?_⟩
  refine wLc_by (fun acc S' => IsSrc S' s c ∧ KeptW S S' s c ∧ acc.length ≤ 8 ∧ ∃ rs : List (List Rat), acc = rs.map rowT ∧ ∀ r ∈ rs, RowN n 6 r) (fun _ _ _ => trivial) (fun acc _ h => Nat.lt_of_le_of_lt h.2.2.1 (by decide)) ?_ ?_ ⟨hs1, k1.w, by simp, [], rfl, by simp⟩
  · rintro t acc S2 C ht ⟨hs2, k2, l2, rs, rfl, hr⟩ hlt hC
    simp only [List.length_map, List.length_range] at hlt
    simp only [wS, sem, Sm.val, Sm.tst, Sm.arg, Sm.itr, boolOf, truthOf, gT, gTs, zip_tup, seq_lst, seq_tup, lst_lst, Co.sem, oInt, Bo.sem, oAdd, oSub, oMul, oDiv, oMod, Bf.sem, oLen, oAbs, oInt1, oGcd, oNeg, oIx, Mt.sem, List.getElem?_cons_zero, List.getElem?_cons_succ, List.set_cons_zero, List.set_cons_succ, setAll, frz_lst, frz_dct, tru_bl, tru_int, oEq_int, oEq_str, Bool.false_bne, Bool.true_bne, if_true, if_false, Bool.false_eq_true, reduceIte, Bool.not_true, Bool.not_false, List.cons.injEq, true_and, and_true, List.length_cons, List.length_nil, Option.some.injEq, exists_eq_left', wipeE, List.map_cons, List.map_nil]
    refine ⟨s, c, n, w, rfl, by omega, by omega, hs2, fun qs S3 lq hq hs3 k3 => hC _ _ ⟨hs3, k2.tr k3.w, by simp; omega, rs ++ [qs], by simp, fun r hm => ?_⟩⟩
    rcases List.mem_append.mp hm with hm | hm
    · exact hr r hm
    · rw [List.mem_singleton.mp hm]
      exact small_row lq hq (Nat.lt_of_le_of_lt (show 3 * w ≤ 60 by omega) (by decide)) (by omega)
  · rintro acc S2 ⟨hs2, k2, l2, rs, rfl, hr⟩ hlen p hp
    simp only [List.length_map, List.length_range] at hlen
    have lr : (rs.length : Int) = 1 + i := by omega
    obtain ⟨ps, pc⟩ := hs2.ne hp
    have np : S p = none := k2.non hs2 hp
    have fin : ∀ (us : List (List Rat)) e5 e6 e7 e8 S', 1 ≤ us.length → us.length ≤ most → (∀ r ∈ us, RowN n 200 r) → S' p = some (.lst (us.map rowT)) → IsSrc S' s c → KeptW S S' s c →
        wS b_l_draw_rows_0 G [some (.ref s), some (.int n), some (.int most), some (.int w), some (.ref p), e5, e6, e7, e8] S' { nx := fun _ S' => R .non S', rt := R, xx := fun _ => X } := by
      intro us e5 e6 e7 e8 S' u1 u2 hu e1 hs' k'
      simp only [b_l_draw_rows_0, wS, sem, Sm.val, Sm.tst, Sm.arg, Sm.itr, boolOf, truthOf, gT, gTs, zip_tup, seq_lst, seq_tup, lst_lst, Co.sem, oInt, Bo.sem, oAdd, oSub, oMul, oDiv, oMod, Bf.sem, oLen, oAbs, oInt1, oGcd, oNeg, oIx, Mt.sem, List.getElem?_cons_zero, List.getElem?_cons_succ, List.set_cons_zero, List.set_cons_succ, setAll, frz_lst, frz_dct, tru_bl, tru_int, oEq_int, oEq_str, Bool.false_bne, Bool.true_bne, if_true, if_false, Bool.false_eq_true, reduceIte, Bool.not_true, Bool.not_false, List.cons.injEq, true_and, and_true, List.length_cons, List.length_nil, Option.some.injEq, exists_eq_left', h0]
      refine ⟨s, c, _, us.map rowT, rfl, seq_ref e1, hs', by simp; omega, fun vs q S'' pm nq e2 hs'' k'' => ?_⟩
      obtain ⟨ws, rfl, pm2⟩ := perm_map rowT pm
      exact k ws q S'' (by rw [pm2.length_eq]; exact u1) (by rw [pm2.length_eq]; exact u2) (fun r hm => hu r (pm2.mem_iff.mp hm)) (k'.non hs' nq) e2 hs'' (k'.tr k'')
    have kn : KeptW S (up S2 p (.lst (rs.map rowT))) s c := fun b o eb hb hb' => by
      have nb : b ≠ p := fun z => by rw [z, np] at eb; cases eb
      rw [up_ne nb]
      exact k2 b o eb hb hb'
    simp only [b_l_draw_rows_8, wS, sem, Sm.val, Sm.tst, Sm.arg, Sm.itr, boolOf, truthOf, gT, gTs, zip_tup, seq_lst, seq_tup, lst_lst, Co.sem, oInt, Bo.sem, oAdd, oSub, oMul, oDiv, oMod, Bf.sem, oLen, oAbs, oInt1, oGcd, oNeg, oIx, Mt.sem, List.getElem?_cons_zero, List.getElem?_cons_succ, List.set_cons_zero, List.set_cons_succ, setAll, frz_lst, frz_dct, tru_bl, tru_int, oEq_int, oEq_str, Bool.false_bne, Bool.true_bne, if_true, if_false, Bool.false_eq_true, reduceIte, Bool.not_true, Bool.not_false, List.cons.injEq, true_and, and_true, List.length_cons, List.length_nil, Option.some.injEq, exists_eq_left', h3]
    refine pick_of (hs2.put ps pc) (by omega) (by omega) fun j S3 j1 j2 hs3 k3 => ?_
    have e3 : S3 p = some (.lst (rs.map rowT)) := (k3 p ps pc).trans up_same
    have k3' := kn.tr k3.w
    have big : ∀ r ∈ rs, RowN n 200 r := fun r hm => (hr r hm).up (by omega)
    simp only [b_l_draw_rows_7, wS, sem, Sm.val, Sm.tst, Sm.arg, Sm.itr, boolOf, truthOf, gT, gTs, zip_tup, seq_lst, seq_tup, lst_lst, Co.sem, oInt, Bo.sem, oAdd, oSub, oMul, oDiv, oMod, Bf.sem, oLen, oAbs, oInt1, oGcd, oNeg, oIx, Mt.sem, List.getElem?_cons_zero, List.getElem?_cons_succ, List.set_cons_zero, List.set_cons_succ, setAll, frz_lst, frz_dct, tru_bl, tru_int, oEq_int, oEq_str, Bool.false_bne, Bool.true_bne, if_true, if_false, Bool.false_eq_true, reduceIte, Bool.not_true, Bool.not_false, List.cons.injEq, true_and, and_true, List.length_cons, List.length_nil, Option.some.injEq, exists_eq_left', seq_ref e3, List.length_map]
    have put : ∀ (us : List (List Rat)) (S4 : Sto), IsSrc S4 s c → KeptW S S4 s c → IsSrc (up S4 p (.lst (us.map rowT))) s c ∧ KeptW S (up S4 p (.lst (us.map rowT))) s c := fun us S4 a b => ⟨a.put ps pc, fun x o eb hb hb' => by
      have nb : x ≠ p := fun z => by rw [z, np] at eb; cases eb
      rw [up_ne nb]
      exact b x o eb hb hb'⟩
    by_cases c1 : j < 2 ∧ (rs.length : Int) < most
    · simp only [c1.1, c1.2, decide_true, wS, sem, Sm.val, Sm.tst, Sm.arg, Sm.itr, boolOf, truthOf, gT, gTs, zip_tup, seq_lst, seq_tup, lst_lst, Co.sem, oInt, Bo.sem, oAdd, oSub, oMul, oDiv, oMod, Bf.sem, oLen, oAbs, oInt1, oGcd, oNeg, oIx, Mt.sem, List.getElem?_cons_zero, List.getElem?_cons_succ, List.set_cons_zero, List.set_cons_succ, setAll, frz_lst, frz_dct, tru_bl, tru_int, oEq_int, oEq_str, Bool.false_bne, Bool.true_bne, if_true, if_false, Bool.false_eq_true, reduceIte, Bool.not_true, Bool.not_false, List.cons.injEq, true_and, and_true, List.length_cons, List.length_nil, Option.some.injEq, exists_eq_left']
      simp only [b_l_draw_rows_2, wS, sem, Sm.val, Sm.tst, Sm.arg, Sm.itr, boolOf, truthOf, gT, gTs, zip_tup, seq_lst, seq_tup, lst_lst, Co.sem, oInt, Bo.sem, oAdd, oSub, oMul, oDiv, oMod, Bf.sem, oLen, oAbs, oInt1, oGcd, oNeg, oIx, Mt.sem, List.getElem?_cons_zero, List.getElem?_cons_succ, List.set_cons_zero, List.set_cons_succ, setAll, frz_lst, frz_dct, tru_bl, tru_int, oEq_int, oEq_str, Bool.false_bne, Bool.true_bne, if_true, if_false, Bool.false_eq_true, reduceIte, Bool.not_true, Bool.not_false, List.cons.injEq, true_and, and_true, List.length_cons, List.length_nil, Option.some.injEq, exists_eq_left', seq_ref e3, h3]
      refine wLc_by (fun acc S' => IsSrc S' s c ∧ KeptW S S' s c ∧ S' p = some (.lst (rs.map rowT)) ∧ acc.length ≤ 8 ∧ ∃ as : List Rat, acc = as.map rT ∧ ∀ a ∈ as, Sz 3 a) (fun acc S' h => ?_) (fun acc _ h => Nat.lt_of_le_of_lt h.2.2.2.1 (by decide)) ?_ ?_ ⟨hs3, k3', e3, by simp, [], rfl, by simp⟩
      · simp only [gdOf, e3]; exact h.2.2.1
      · rintro t acc S4 C ht ⟨hs4, k4, e4, l4, as, rfl, ha⟩ hlt hC
        simp only [List.length_map] at hlt
        simp only [wS, sem, Sm.val, Sm.tst, Sm.arg, Sm.itr, boolOf, truthOf, gT, gTs, zip_tup, seq_lst, seq_tup, lst_lst, Co.sem, oInt, Bo.sem, oAdd, oSub, oMul, oDiv, oMod, Bf.sem, oLen, oAbs, oInt1, oGcd, oNeg, oIx, Mt.sem, List.getElem?_cons_zero, List.getElem?_cons_succ, List.set_cons_zero, List.set_cons_succ, setAll, frz_lst, frz_dct, tru_bl, tru_int, oEq_int, oEq_str, Bool.false_bne, Bool.true_bne, if_true, if_false, Bool.false_eq_true, reduceIte, Bool.not_true, Bool.not_false, List.cons.injEq, true_and, and_true, List.length_cons, List.length_nil, Option.some.injEq, exists_eq_left', wipeE, List.map_cons, List.map_nil]
        refine pick_of hs4 (by omega) (by omega) fun a S5 a1 a2 hs5 k5 => ?_
        have ea : (.tup [.int (1 + a), .int 1] : T) = rT (Rat.divInt (1 + a) 1) := rT_nf ⟨by omega, by rw [Int.gcd_one]⟩
        refine ⟨by decide, hC _ _ ⟨hs5, k4.tr k5.w, (k5 p ps pc).trans e4, by simp; omega, as ++ [Rat.divInt (1 + a) 1], by rw [ea]; simp, fun x hx => ?_⟩⟩
        rcases List.mem_append.mp hx with hx | hx
        · exact ha x hx
        · rw [List.mem_singleton.mp hx]
          exact sz_of (a := 2) (b := 1) (by omega) (by omega) (by omega) (by decide) (by decide)
      · rintro acc S4 ⟨hs4, k4, e4, l4, as, rfl, ha⟩ hlen4 _
        simp only [b_l_draw_rows_1, wS, sem, Sm.val, Sm.tst, Sm.arg, Sm.itr, boolOf, truthOf, gT, gTs, zip_tup, seq_lst, seq_tup, lst_lst, Co.sem, oInt, Bo.sem, oAdd, oSub, oMul, oDiv, oMod, Bf.sem, oLen, oAbs, oInt1, oGcd, oNeg, oIx, Mt.sem, List.getElem?_cons_zero, List.getElem?_cons_succ, List.set_cons_zero, List.set_cons_succ, setAll, frz_lst, frz_dct, tru_bl, tru_int, oEq_int, oEq_str, Bool.false_bne, Bool.true_bne, if_true, if_false, Bool.false_eq_true, reduceIte, Bool.not_true, Bool.not_false, List.cons.injEq, true_and, and_true, List.length_cons, List.length_nil, Option.some.injEq, exists_eq_left', h1, h2]
        simp only [List.length_map] at hlen4
        have lz : (rs.zip as).length ≤ 8 := by rw [List.length_zip]; omega
        have lz2 : (6 + 3 + 1) * (rs.zip as).length ≤ (6 + 3 + 1) * 8 := Nat.mul_le_mul_left _ lz
        have rr : RowN n (1 + (6 + 3 + 1) * (rs.zip as).length) (reachR n (rs.zip as)) := rowN_reach fun q hq => by
          obtain ⟨q1, q2⟩ := List.of_mem_zip (show (q.1, q.2) ∈ rs.zip as from hq)
          exact ⟨hr _ q1, ha _ q2⟩
        have sm : Sz 1 (-1 : Rat) := ⟨by show (1 : Nat) < _; decide +kernel, by show (1 : Nat) < _; decide +kernel⟩
        refine ⟨⟨p, _, rfl, e4⟩, _, _, rs, as, n, 6, 3, rfl, seq_ref e4, rfl, n1, by omega, hr, ha, by omega, by omega, by omega, by decide, _, -1, by rw [← show (T.tup [T.int (0 - 1), T.int 1]) = rT (-1) from rfl], fun z hz => (rr.2 z hz).up (by omega), sm.up (by omega), by rw [rr.1]; omega, ?_⟩
        simp only [oAppend, e4, List.length_map]
        refine ⟨Nat.lt_of_le_of_lt (show rs.length ≤ 8 by omega) (by decide), ?_⟩
        have ee : rs.map rowT ++ [rowT ((reachR n (rs.zip as)).map fun x => x * -1)] = (rs ++ [mulR (reachR n (rs.zip as)) (-1)]).map rowT := by simp [mulR]
        rw [ee]
        obtain ⟨h1', h2'⟩ := put (rs ++ [mulR (reachR n (rs.zip as)) (-1)]) S4 hs4 k4
        refine fin _ _ _ _ _ _ (by simp) (by simp; omega) (fun r hm => ?_) up_same h1' h2'
        rcases List.mem_append.mp hm with hm | hm
        · exact big r hm
        · rw [List.mem_singleton.mp hm]
          exact (rowN_mul rr sm).up (by omega)
    · have c2 : (decide (j < 2) && decide ((rs.length : Int) < most)) = false := by
        rw [Bool.and_eq_false_iff, decide_eq_false_iff_not, decide_eq_false_iff_not]
        omega
      have goon : wS b_l_draw_rows_6 G [some (.ref s), some (.int n), some (.int most), some (.int w), some (.ref p), some (.int j), none, none, none] S3 { nx := fun e' S' => wS b_l_draw_rows_0 G e' S' { nx := fun _ S' => R .non S', rt := R, xx := fun _ => X }, rt := R, xx := fun _ => X } := by
        have r0 : 0 < rs.length := by omega
        simp only [b_l_draw_rows_6, wS, sem, Sm.val, Sm.tst, Sm.arg, Sm.itr, boolOf, truthOf, gT, gTs, zip_tup, seq_lst, seq_tup, lst_lst, Co.sem, oInt, Bo.sem, oAdd, oSub, oMul, oDiv, oMod, Bf.sem, oLen, oAbs, oInt1, oGcd, oNeg, oIx, Mt.sem, List.getElem?_cons_zero, List.getElem?_cons_succ, List.set_cons_zero, List.set_cons_succ, setAll, frz_lst, frz_dct, tru_bl, tru_int, oEq_int, oEq_str, Bool.false_bne, Bool.true_bne, if_true, if_false, Bool.false_eq_true, reduceIte, Bool.not_true, Bool.not_false, List.cons.injEq, true_and, and_true, List.length_cons, List.length_nil, Option.some.injEq, exists_eq_left']
        by_cases j2 : j = 2
        · simp only [j2, decide_true, wS, sem, Sm.val, Sm.tst, Sm.arg, Sm.itr, boolOf, truthOf, gT, gTs, zip_tup, seq_lst, seq_tup, lst_lst, Co.sem, oInt, Bo.sem, oAdd, oSub, oMul, oDiv, oMod, Bf.sem, oLen, oAbs, oInt1, oGcd, oNeg, oIx, Mt.sem, List.getElem?_cons_zero, List.getElem?_cons_succ, List.set_cons_zero, List.set_cons_succ, setAll, frz_lst, frz_dct, tru_bl, tru_int, oEq_int, oEq_str, Bool.false_bne, Bool.true_bne, if_true, if_false, Bool.false_eq_true, reduceIte, Bool.not_true, Bool.not_false, List.cons.injEq, true_and, and_true, List.length_cons, List.length_nil, Option.some.injEq, exists_eq_left']
          simp only [b_l_draw_rows_3, wS, sem, Sm.val, Sm.tst, Sm.arg, Sm.itr, boolOf, truthOf, gT, gTs, zip_tup, seq_lst, seq_tup, lst_lst, Co.sem, oInt, Bo.sem, oAdd, oSub, oMul, oDiv, oMod, Bf.sem, oLen, oAbs, oInt1, oGcd, oNeg, oIx, Mt.sem, List.getElem?_cons_zero, List.getElem?_cons_succ, List.set_cons_zero, List.set_cons_succ, setAll, frz_lst, frz_dct, tru_bl, tru_int, oEq_int, oEq_str, Bool.false_bne, Bool.true_bne, if_true, if_false, Bool.false_eq_true, reduceIte, Bool.not_true, Bool.not_false, List.cons.injEq, true_and, and_true, List.length_cons, List.length_nil, Option.some.injEq, exists_eq_left', seq_ref e3]
          refine ⟨rowT rs[rs.length - 1], ?_, ?_⟩
          · rw [at_last (by simp; omega)]
            simp [List.getElem?_eq_getElem (show rs.length - 1 < rs.length by omega)]
          · simp only [oSetL, e3, List.length_map]
            refine ⟨0, by unfold ixN; rw [if_pos (by omega), if_pos (by omega)]; rfl, ?_⟩
            have ee : (rs.map rowT).set 0 (rowT rs[rs.length - 1]) = (rs.set 0 rs[rs.length - 1]).map rowT := by rw [List.map_set]
            rw [ee]
            obtain ⟨h1', h2'⟩ := put (rs.set 0 rs[rs.length - 1]) S3 hs3 k3'
            refine fin _ _ _ _ _ _ (by simp; omega) (by simp; omega) (fun r hm => ?_) up_same h1' h2'
            rcases List.mem_or_eq_of_mem_set hm with hm | hm
            · exact big r hm
            · rw [hm]; exact big _ (List.getElem_mem _)
        · simp only [j2, decide_false, wS, sem, Sm.val, Sm.tst, Sm.arg, Sm.itr, boolOf, truthOf, gT, gTs, zip_tup, seq_lst, seq_tup, lst_lst, Co.sem, oInt, Bo.sem, oAdd, oSub, oMul, oDiv, oMod, Bf.sem, oLen, oAbs, oInt1, oGcd, oNeg, oIx, Mt.sem, List.getElem?_cons_zero, List.getElem?_cons_succ, List.set_cons_zero, List.set_cons_succ, setAll, frz_lst, frz_dct, tru_bl, tru_int, oEq_int, oEq_str, Bool.false_bne, Bool.true_bne, if_true, if_false, Bool.false_eq_true, reduceIte, Bool.not_true, Bool.not_false, List.cons.injEq, true_and, and_true, List.length_cons, List.length_nil, Option.some.injEq, exists_eq_left']
          simp only [b_l_draw_rows_5, wS, sem, Sm.val, Sm.tst, Sm.arg, Sm.itr, boolOf, truthOf, gT, gTs, zip_tup, seq_lst, seq_tup, lst_lst, Co.sem, oInt, Bo.sem, oAdd, oSub, oMul, oDiv, oMod, Bf.sem, oLen, oAbs, oInt1, oGcd, oNeg, oIx, Mt.sem, List.getElem?_cons_zero, List.getElem?_cons_succ, List.set_cons_zero, List.set_cons_succ, setAll, frz_lst, frz_dct, tru_bl, tru_int, oEq_int, oEq_str, Bool.false_bne, Bool.true_bne, if_true, if_false, Bool.false_eq_true, reduceIte, Bool.not_true, Bool.not_false, List.cons.injEq, true_and, and_true, List.length_cons, List.length_nil, Option.some.injEq, exists_eq_left']
          by_cases j3 : j = 3
          · simp only [j3, decide_true, wS, sem, Sm.val, Sm.tst, Sm.arg, Sm.itr, boolOf, truthOf, gT, gTs, zip_tup, seq_lst, seq_tup, lst_lst, Co.sem, oInt, Bo.sem, oAdd, oSub, oMul, oDiv, oMod, Bf.sem, oLen, oAbs, oInt1, oGcd, oNeg, oIx, Mt.sem, List.getElem?_cons_zero, List.getElem?_cons_succ, List.set_cons_zero, List.set_cons_succ, setAll, frz_lst, frz_dct, tru_bl, tru_int, oEq_int, oEq_str, Bool.false_bne, Bool.true_bne, if_true, if_false, Bool.false_eq_true, reduceIte, Bool.not_true, Bool.not_false, List.cons.injEq, true_and, and_true, List.length_cons, List.length_nil, Option.some.injEq, exists_eq_left']
            simp only [b_l_draw_rows_4, wS, sem, Sm.val, Sm.tst, Sm.arg, Sm.itr, boolOf, truthOf, gT, gTs, zip_tup, seq_lst, seq_tup, lst_lst, Co.sem, oInt, Bo.sem, oAdd, oSub, oMul, oDiv, oMod, Bf.sem, oLen, oAbs, oInt1, oGcd, oNeg, oIx, Mt.sem, List.getElem?_cons_zero, List.getElem?_cons_succ, List.set_cons_zero, List.set_cons_succ, setAll, frz_lst, frz_dct, tru_bl, tru_int, oEq_int, oEq_str, Bool.false_bne, Bool.true_bne, if_true, if_false, Bool.false_eq_true, reduceIte, Bool.not_true, Bool.not_false, List.cons.injEq, true_and, and_true, List.length_cons, List.length_nil, Option.some.injEq, exists_eq_left', h3]
            refine ⟨by decide, by decide, fun _ => ⟨⟨by omega, by omega, ?_⟩, fun _ => ?_⟩⟩
            · rw [Int.toNat_natCast]; exact Nat.le_trans (show 1 * n ≤ 12 by omega) (by decide)
            rw [Int.toNat_natCast, rep_one]
            simp only [oTup, wS, sem, Sm.val, Sm.tst, Sm.arg, Sm.itr, boolOf, truthOf, gT, gTs, zip_tup, seq_lst, seq_tup, lst_lst, Co.sem, oInt, Bo.sem, oAdd, oSub, oMul, oDiv, oMod, Bf.sem, oLen, oAbs, oInt1, oGcd, oNeg, oIx, Mt.sem, List.getElem?_cons_zero, List.getElem?_cons_succ, List.set_cons_zero, List.set_cons_succ, setAll, frz_lst, frz_dct, tru_bl, tru_int, oEq_int, oEq_str, Bool.false_bne, Bool.true_bne, if_true, if_false, Bool.false_eq_true, reduceIte, Bool.not_true, Bool.not_false, List.cons.injEq, true_and, and_true, List.length_cons, List.length_nil, Option.some.injEq, exists_eq_left', seq_ref e3, List.length_map]
            rw [row_zero]
            refine pick_of hs3 (by omega) (by omega) fun a S4 a1 a2 hs4 k4 => ?_
            have e4 : S4 p = some (.lst (rs.map rowT)) := (k4 p ps pc).trans e3
            simp only [oSetL, e4, List.length_map]
            refine ⟨a.toNat, by unfold ixN; rw [if_pos (by omega), if_pos (by omega)], ?_⟩
            have ee : (rs.map rowT).set a.toNat (rowT (List.replicate n 0)) = (rs.set a.toNat (List.replicate n 0)).map rowT := by rw [List.map_set]
            rw [ee]
            obtain ⟨h1', h2'⟩ := put (rs.set a.toNat (List.replicate n 0)) S4 hs4 (k3'.tr k4.w)
            refine fin _ _ _ _ _ _ (by simp; omega) (by simp; omega) (fun r hm => ?_) up_same h1' h2'
            rcases List.mem_or_eq_of_mem_set hm with hm | hm
            · exact big r hm
            · rw [hm]; exact (rowN_zero n).up (by omega)
          · simp only [j3, decide_false, wS, sem, Sm.val, Sm.tst, Sm.arg, Sm.itr, boolOf, truthOf, gT, gTs, zip_tup, seq_lst, seq_tup, lst_lst, Co.sem, oInt, Bo.sem, oAdd, oSub, oMul, oDiv, oMod, Bf.sem, oLen, oAbs, oInt1, oGcd, oNeg, oIx, Mt.sem, List.getElem?_cons_zero, List.getElem?_cons_succ, List.set_cons_zero, List.set_cons_succ, setAll, frz_lst, frz_dct, tru_bl, tru_int, oEq_int, oEq_str, Bool.false_bne, Bool.true_bne, if_true, if_false, Bool.false_eq_true, reduceIte, Bool.not_true, Bool.not_false, List.cons.injEq, true_and, and_true, List.length_cons, List.length_nil, Option.some.injEq, exists_eq_left']
            exact fin rs _ _ _ _ _ (by omega) (by omega) big e3 hs3 k3'
      by_cases jj : j < 2
      · have c3 : ¬ (rs.length : Int) < most := fun z => c1 ⟨jj, z⟩
        simp only [jj, c3, decide_true, decide_false, wS, sem, Sm.val, Sm.tst, Sm.arg, Sm.itr, boolOf, truthOf, gT, gTs, zip_tup, seq_lst, seq_tup, lst_lst, Co.sem, oInt, Bo.sem, oAdd, oSub, oMul, oDiv, oMod, Bf.sem, oLen, oAbs, oInt1, oGcd, oNeg, oIx, Mt.sem, List.getElem?_cons_zero, List.getElem?_cons_succ, List.set_cons_zero, List.set_cons_succ, setAll, frz_lst, frz_dct, tru_bl, tru_int, oEq_int, oEq_str, Bool.false_bne, Bool.true_bne, if_true, if_false, Bool.false_eq_true, reduceIte, Bool.not_true, Bool.not_false, List.cons.injEq, true_and, and_true, List.length_cons, List.length_nil, Option.some.injEq, exists_eq_left']
        exact goon
      · simp only [jj, decide_false, wS, sem, Sm.val, Sm.tst, Sm.arg, Sm.itr, boolOf, truthOf, gT, gTs, zip_tup, seq_lst, seq_tup, lst_lst, Co.sem, oInt, Bo.sem, oAdd, oSub, oMul, oDiv, oMod, Bf.sem, oLen, oAbs, oInt1, oGcd, oNeg, oIx, Mt.sem, List.getElem?_cons_zero, List.getElem?_cons_succ, List.set_cons_zero, List.set_cons_succ, setAll, frz_lst, frz_dct, tru_bl, tru_int, oEq_int, oEq_str, Bool.false_bne, Bool.true_bne, if_true, if_false, Bool.false_eq_true, reduceIte, Bool.not_true, Bool.not_false, List.cons.injEq, true_and, and_true, List.length_cons, List.length_nil, Option.some.injEq, exists_eq_left']
        exact goon
/-- rates drawn: rows of so many fractions, one or more -/
def spDrawRates : TSp := fun ts S R X => ∃ s c, ∃ n : Nat, ts = [.ref s, .int n] ∧ 1 ≤ n ∧ n ≤ 12 ∧ IsSrc S s c ∧ ∀ (rs : List (List Rat)) S', 1 ≤ rs.length → rs.length ≤ 6 → (∀ r ∈ rs, RowN n 200 r) → IsSrc S' s c → KeptW S S' s c → R (.lst (rs.map rowT)) S'
theorem w_drawRates (G : Gx) (N : List Str) (hN : N.length = 7) {x0 : Str} (h0 : G.fns[0]? = some (x0, spPick)) {x1 : Str} (h1 : G.fns[1]? = some (x1, spDrawRows)) (ts : List T) (S : Sto) (R : RP) (X : XP) (h : spDrawRates ts S R X) : ts.length = 2 ∧ wS b_l_draw_rates G (startE N ts) S { nx := fun _ S' => R .non S', rt := R, xx := fun _ => X } := by
  obtain ⟨s, c, n, rfl, n1, n2, hs, k⟩ := h
  refine ⟨rfl, ?_⟩
  unfold startE
  rw [hN]
  show wS b_l_draw_rates G [some (.ref s), some (.int n), none, none, none, none, none] S _
  simp only [b_l_draw_rates, b_l_draw_rates_4, wS, sem, Sm.val, Sm.tst, Sm.arg, Sm.itr, boolOf, truthOf, gT, gTs, zip_tup, seq_lst, seq_tup, lst_lst, Co.sem, oInt, Bo.sem, oAdd, oSub, oMul, oDiv, oMod, Bf.sem, oLen, oAbs, oInt1, oGcd, oNeg, oIx, Mt.sem, List.getElem?_cons_zero, List.getElem?_cons_succ, List.set_cons_zero, List.set_cons_succ, setAll, frz_lst, frz_dct, tru_bl, tru_int, oEq_int, oEq_str, Bool.false_bne, Bool.true_bne, if_true, if_false, Bool.false_eq_true, reduceIte, Bool.not_true, Bool.not_false, List.cons.injEq, true_and, and_true, List.length_cons, List.length_nil, Option.some.injEq, exists_eq_left', h1]
  refine ⟨s, c, n, 4, 2, rfl, n1, n2, by omega, by omega, by omega, hs, fun rs p S1 r1 r2 hr np e1 hs1 k1 => ?_⟩
  have ps : p ≠ s ∧ p ≠ c := hs.ne np
  simp only [b_l_draw_rates_3, wS, sem, Sm.val, Sm.tst, Sm.arg, Sm.itr, boolOf, truthOf, gT, gTs, zip_tup, seq_lst, seq_tup, lst_lst, Co.sem, oInt, Bo.sem, oAdd, oSub, oMul, oDiv, oMod, Bf.sem, oLen, oAbs, oInt1, oGcd, oNeg, oIx, Mt.sem, List.getElem?_cons_zero, List.getElem?_cons_succ, List.set_cons_zero, List.set_cons_succ, setAll, frz_lst, frz_dct, tru_bl, tru_int, oEq_int, oEq_str, Bool.false_bne, Bool.true_bne, if_true, if_false, Bool.false_eq_true, reduceIte, Bool.not_true, Bool.not_false, List.cons.injEq, true_and, and_true, List.length_cons, List.length_nil, Option.some.injEq, exists_eq_left', h0]
  refine pick_of hs1 (by omega) (by omega) fun j S2 j1 j2 hs2 k2 => ?_
  simp only
  refine ⟨by omega, ?_⟩
  refine wFor_by (fun i e S' => IsSrc S' s c ∧ KeptW S S' s c ∧ (∃ a b d f, e = [some (.ref s), some (.int n), some (.ref p), a, b, d, f]) ∧ ∃ rs : List (List Rat), S' p = some (.lst (rs.map rowT)) ∧ 1 ≤ rs.length ∧ rs.length ≤ 4 + i ∧ ∀ r ∈ rs, RowN n 200 r) (fun _ _ _ _ => trivial) ?_ ?_ ⟨hs2, k1.tr k2.w, ⟨_, _, _, _, rfl⟩, rs, (k2 p ps.1 ps.2).trans e1, r1, r2, hr⟩
  · rintro i t e S3 C ht ⟨hs3, k3, ⟨a, b, d, f, rfl⟩, rs, e3, r1, r2, hr⟩ hC
    have hi : i < j.toNat := by
      have := (List.getElem?_eq_some_iff.mp ht).1
      simpa using this
    simp only [b_l_draw_rates_2, wS, sem, Sm.val, Sm.tst, Sm.arg, Sm.itr, boolOf, truthOf, gT, gTs, zip_tup, seq_lst, seq_tup, lst_lst, Co.sem, oInt, Bo.sem, oAdd, oSub, oMul, oDiv, oMod, Bf.sem, oLen, oAbs, oInt1, oGcd, oNeg, oIx, Mt.sem, List.getElem?_cons_zero, List.getElem?_cons_succ, List.set_cons_zero, List.set_cons_succ, setAll, frz_lst, frz_dct, tru_bl, tru_int, oEq_int, oEq_str, Bool.false_bne, Bool.true_bne, if_true, if_false, Bool.false_eq_true, reduceIte, Bool.not_true, Bool.not_false, List.cons.injEq, true_and, and_true, List.length_cons, List.length_nil, Option.some.injEq, exists_eq_left', h0]
    refine pick_of hs3 (by omega) (by omega) fun l S4 l1 l2 hs4 k4 => ?_
    refine ⟨by decide, by decide, by decide, by decide, fun _ => pick_of hs4 (by omega) (by omega) fun u S5 u1 u2 hs5 k5 => ?_⟩
    obtain ⟨t', f1, f2⟩ := at_in (us := [T.tup [.int 1, .int 1], T.tup [.int (0 - 1), .int 1], T.tup [.int 1, .int 2]]) u1 u2
    obtain ⟨q, rfl, sq⟩ : ∃ q : Rat, t' = rT q ∧ Sz 2 q := by
      simp only [List.mem_cons, List.not_mem_nil, or_false] at f2
      rcases f2 with rfl | rfl | rfl
      · exact ⟨1, rfl, ⟨by show (1 : Nat) < _; decide +kernel, by show (1 : Nat) < _; decide +kernel⟩⟩
      · exact ⟨-1, rfl, ⟨by show (1 : Nat) < _; decide +kernel, by show (1 : Nat) < _; decide +kernel⟩⟩
      · exact ⟨Rat.divInt 1 2, by kernel_rfl, sz_of (a := 1) (b := 2) (by omega) (by omega) (by omega) (by decide) (by decide)⟩
    refine ⟨_, f1, by decide, ?_⟩
    have e5 : S5 p = some (.lst (rs.map rowT)) := (k5 p ps.1 ps.2).trans ((k4 p ps.1 ps.2).trans e3)
    simp only [b_l_draw_rates_1, wS, sem, Sm.val, Sm.tst, Sm.arg, Sm.itr, boolOf, truthOf, gT, gTs, zip_tup, seq_lst, seq_tup, lst_lst, Co.sem, oInt, Bo.sem, oAdd, oSub, oMul, oDiv, oMod, Bf.sem, oLen, oAbs, oInt1, oGcd, oNeg, oIx, Mt.sem, List.getElem?_cons_zero, List.getElem?_cons_succ, List.set_cons_zero, List.set_cons_succ, setAll, frz_lst, frz_dct, tru_bl, tru_int, oEq_int, oEq_str, Bool.false_bne, Bool.true_bne, if_true, if_false, Bool.false_eq_true, reduceIte, Bool.not_true, Bool.not_false, List.cons.injEq, true_and, and_true, List.length_cons, List.length_nil, Option.some.injEq, exists_eq_left']
    refine ⟨⟨p, _, rfl, e5⟩, by omega, ?_⟩
    refine wLc_of (fun m : Nat => T.int (m : Int)) (fun m => rT (if (m : Int) = l then q else 0)) trivial (by simp only [List.length_nil, List.length_range, Int.toNat_natCast]; exact Nat.le_trans (show _ ≤ 12 by omega) (by decide)) ?_ fun _ => ?_
    · intro m hm C hC
      simp only [wS, sem, Sm.val, Sm.tst, Sm.arg, Sm.itr, boolOf, truthOf, gT, gTs, zip_tup, seq_lst, seq_tup, lst_lst, Co.sem, oInt, Bo.sem, oAdd, oSub, oMul, oDiv, oMod, Bf.sem, oLen, oAbs, oInt1, oGcd, oNeg, oIx, Mt.sem, List.getElem?_cons_zero, List.getElem?_cons_succ, List.set_cons_zero, List.set_cons_succ, setAll, frz_lst, frz_dct, tru_bl, tru_int, oEq_int, oEq_str, Bool.false_bne, Bool.true_bne, if_true, if_false, Bool.false_eq_true, reduceIte, Bool.not_true, Bool.not_false, List.cons.injEq, true_and, and_true, List.length_cons, List.length_nil, Option.some.injEq, exists_eq_left', wipeE, List.map_cons, List.map_nil]
      by_cases em : (m : Int) = l
      · simp only [em, decide_true, wS, sem, Sm.val, Sm.tst, Sm.arg, Sm.itr, boolOf, truthOf, gT, gTs, zip_tup, seq_lst, seq_tup, lst_lst, Co.sem, oInt, Bo.sem, oAdd, oSub, oMul, oDiv, oMod, Bf.sem, oLen, oAbs, oInt1, oGcd, oNeg, oIx, Mt.sem, List.getElem?_cons_zero, List.getElem?_cons_succ, List.set_cons_zero, List.set_cons_succ, setAll, frz_lst, frz_dct, tru_bl, tru_int, oEq_int, oEq_str, Bool.false_bne, Bool.true_bne, if_true, if_false, Bool.false_eq_true, reduceIte, Bool.not_true, Bool.not_false, List.cons.injEq, true_and, and_true, List.length_cons, List.length_nil, Option.some.injEq, exists_eq_left'] at hC ⊢
        exact hC
      · simp only [em, decide_false, wS, sem, Sm.val, Sm.tst, Sm.arg, Sm.itr, boolOf, truthOf, gT, gTs, zip_tup, seq_lst, seq_tup, lst_lst, Co.sem, oInt, Bo.sem, oAdd, oSub, oMul, oDiv, oMod, Bf.sem, oLen, oAbs, oInt1, oGcd, oNeg, oIx, Mt.sem, List.getElem?_cons_zero, List.getElem?_cons_succ, List.set_cons_zero, List.set_cons_succ, setAll, frz_lst, frz_dct, tru_bl, tru_int, oEq_int, oEq_str, Bool.false_bne, Bool.true_bne, if_true, if_false, Bool.false_eq_true, reduceIte, Bool.not_true, Bool.not_false, List.cons.injEq, true_and, and_true, List.length_cons, List.length_nil, Option.some.injEq, exists_eq_left'] at hC ⊢
        exact ⟨by decide, hC⟩
    · simp only [List.nil_append, oTup, wS, sem, Sm.val, Sm.tst, Sm.arg, Sm.itr, boolOf, truthOf, gT, gTs, zip_tup, seq_lst, seq_tup, lst_lst, Co.sem, oInt, Bo.sem, oAdd, oSub, oMul, oDiv, oMod, Bf.sem, oLen, oAbs, oInt1, oGcd, oNeg, oIx, Mt.sem, List.getElem?_cons_zero, List.getElem?_cons_succ, List.set_cons_zero, List.set_cons_succ, setAll, frz_lst, frz_dct, tru_bl, tru_int, oEq_int, oEq_str, Bool.false_bne, Bool.true_bne, if_true, if_false, Bool.false_eq_true, reduceIte, Bool.not_true, Bool.not_false, List.cons.injEq, true_and, and_true, List.length_cons, List.length_nil, Option.some.injEq, exists_eq_left', oAppend, e5, List.length_map]
      have ee : (.tup ((List.range (n : Int).toNat).map fun m : Nat => rT (if (m : Int) = l then q else 0)) : T) = rowT ((List.range n).map fun m : Nat => if (m : Int) = l then q else 0) := by
        unfold rowT; rw [List.map_map, Int.toNat_natCast]; rfl
      rw [ee]
      refine ⟨Nat.lt_of_le_of_lt (show rs.length ≤ 10 by omega) (by decide), hC _ _ ⟨hs5.put ps.1 ps.2, fun b o eb hb hb' => ?_, ⟨_, _, _, _, rfl⟩, rs ++ [(List.range n).map fun m : Nat => if (m : Int) = l then q else 0], ?_, by simp, by simp; omega, fun r hm => ?_⟩⟩
      · have nb : b ≠ p := fun z => by rw [z, np] at eb; cases eb
        rw [up_ne nb]
        exact (k4.w.tr k5.w) b o (k3 b o eb hb hb') hb hb'
      · rw [up_same, List.map_append]; rfl
      · rcases List.mem_append.mp hm with hm | hm
        · exact hr r hm
        · rw [List.mem_singleton.mp hm]
          refine ⟨by simp, fun z hz => ?_⟩
          obtain ⟨m, _, rfl⟩ := List.mem_map.mp hz
          split
          · exact sq.up (by omega)
          · exact sz_zero.up (by omega)
  · rintro e S3 ⟨hs3, k3, ⟨a, b, d, f, rfl⟩, rs, e3, r1, r2, hr⟩
    simp only [List.length_map, List.length_range] at r2
    simp only [b_l_draw_rates_0, wS, sem, Sm.val, Sm.tst, Sm.arg, Sm.itr, boolOf, truthOf, gT, gTs, zip_tup, seq_lst, seq_tup, lst_lst, Co.sem, oInt, Bo.sem, oAdd, oSub, oMul, oDiv, oMod, Bf.sem, oLen, oAbs, oInt1, oGcd, oNeg, oIx, Mt.sem, List.getElem?_cons_zero, List.getElem?_cons_succ, List.set_cons_zero, List.set_cons_succ, setAll, frz_lst, frz_dct, tru_bl, tru_int, oEq_int, oEq_str, Bool.false_bne, Bool.true_bne, if_true, if_false, Bool.false_eq_true, reduceIte, Bool.not_true, Bool.not_false, List.cons.injEq, true_and, and_true, List.length_cons, List.length_nil, Option.some.injEq, exists_eq_left', frzT, e3]
    have hrm : IsSrc (rm S3 p) s c := by
      obtain ⟨x1, x2, x3, x4, g1, g2, g3⟩ := hs3
      exact ⟨x1, x2, x3, x4, (rm_ne (Ne.symm ps.1)).trans g1, (rm_ne (Ne.symm ps.2)).trans g2, g3⟩
    refine k rs _ r1 (by omega) hr hrm fun b o eb hb hb' => ?_
    have nb : b ≠ p := fun z => by rw [z, np] at eb; cases eb
    rw [rm_ne nb]
    exact k3 b o eb hb hb'
/-- a lot drawn: numbers below n, each once, in any order -/
def spDrawLot : TSp := fun ts S R X => ∃ s c, ∃ n : Nat, ts = [.ref s, .int n] ∧ n ≤ 100 ∧ IsSrc S s c ∧ ∀ (ks : List Nat) S', (∀ k ∈ ks, k < n) → ks.Nodup → IsSrc S' s c → KeptW S S' s c → R (.lst (ks.map fun k => .int (k : Nat))) S'
theorem w_drawLot (G : Gx) (N : List Str) (hN : N.length = 3) {x0 : Str} (h0 : G.fns[0]? = some (x0, spAnyOrder)) {x1 : Str} (h1 : G.fns[1]? = some (x1, spPick)) (ts : List T) (S : Sto) (R : RP) (X : XP) (h : spDrawLot ts S R X) : ts.length = 2 ∧ wS b_l_draw_lot G (startE N ts) S { nx := fun _ S' => R .non S', rt := R, xx := fun _ => X } := by
  obtain ⟨s, c, n, rfl, n1, hs, k⟩ := h
  refine ⟨rfl, ?_⟩
  unfold startE
  rw [hN]
  show wS b_l_draw_lot G [some (.ref s), some (.int n), none] S _
  simp only [b_l_draw_lot, wS, sem, Sm.val, Sm.tst, Sm.arg, Sm.itr, boolOf, truthOf, gT, gTs, zip_tup, seq_lst, seq_tup, lst_lst, Co.sem, oInt, Bo.sem, oAdd, oSub, oMul, oDiv, oMod, Bf.sem, oLen, oAbs, oInt1, oGcd, oNeg, oIx, Mt.sem, List.getElem?_cons_zero, List.getElem?_cons_succ, List.set_cons_zero, List.set_cons_succ, setAll, frz_lst, frz_dct, tru_bl, tru_int, oEq_int, oEq_str, Bool.false_bne, Bool.true_bne, if_true, if_false, Bool.false_eq_true, reduceIte, Bool.not_true, Bool.not_false, List.cons.injEq, true_and, and_true, List.length_cons, List.length_nil, Option.some.injEq, exists_eq_left', h0, h1]
  refine ⟨by omega, ?_⟩
  refine wLci_by (fun i acc S' => IsSrc S' s c ∧ KeptW S S' s c ∧ i ≤ n ∧ ∃ ks : List Nat, acc = ks.map (fun k => T.int (k : Nat)) ∧ (∀ k ∈ ks, k < i) ∧ ks.Nodup ∧ ks.length ≤ i) (fun _ _ _ _ => trivial) (fun i acc _ h => ?_) ?_ ?_ ⟨hs, KeptW.refl, by omega, [], rfl, by simp, by simp, by simp⟩
  · obtain ⟨_, _, l, ks, rfl, _, _, l2⟩ := h
    rw [List.length_map]
    exact Nat.lt_of_le_of_lt (show ks.length ≤ 100 by omega) (by decide)
  · rintro i t acc S1 C1 C0 ht ⟨hs1, k1, l1, ks, rfl, hk, nd, lk⟩ hC1 hC0
    have hi : i < n := by
      have := (List.getElem?_eq_some_iff.mp ht).1
      simpa using this
    rw [List.getElem?_map, List.getElem?_range (by simpa using hi)] at ht
    cases ht
    simp only [wS, sem, Sm.val, Sm.tst, Sm.arg, Sm.itr, boolOf, truthOf, gT, gTs, zip_tup, seq_lst, seq_tup, lst_lst, Co.sem, oInt, Bo.sem, oAdd, oSub, oMul, oDiv, oMod, Bf.sem, oLen, oAbs, oInt1, oGcd, oNeg, oIx, Mt.sem, List.getElem?_cons_zero, List.getElem?_cons_succ, List.set_cons_zero, List.set_cons_succ, setAll, frz_lst, frz_dct, tru_bl, tru_int, oEq_int, oEq_str, Bool.false_bne, Bool.true_bne, if_true, if_false, Bool.false_eq_true, reduceIte, Bool.not_true, Bool.not_false, List.cons.injEq, true_and, and_true, List.length_cons, List.length_nil, Option.some.injEq, exists_eq_left', wipeE, List.map_cons, List.map_nil]
    refine pick_of hs1 (by omega) (by omega) fun j S2 j1 j2 hs2 k2 => ?_
    by_cases jp : (0 : Int) < j
    · simp only [jp, decide_true, wS, sem, Sm.val, Sm.tst, Sm.arg, Sm.itr, boolOf, truthOf, gT, gTs, zip_tup, seq_lst, seq_tup, lst_lst, Co.sem, oInt, Bo.sem, oAdd, oSub, oMul, oDiv, oMod, Bf.sem, oLen, oAbs, oInt1, oGcd, oNeg, oIx, Mt.sem, List.getElem?_cons_zero, List.getElem?_cons_succ, List.set_cons_zero, List.set_cons_succ, setAll, frz_lst, frz_dct, tru_bl, tru_int, oEq_int, oEq_str, Bool.false_bne, Bool.true_bne, if_true, if_false, Bool.false_eq_true, reduceIte, Bool.not_true, Bool.not_false, List.cons.injEq, true_and, and_true, List.length_cons, List.length_nil, Option.some.injEq, exists_eq_left']
      refine hC1 _ _ ⟨hs2, k1.tr k2.w, hi, ks ++ [i], by simp, fun x hx => ?_, ?_, by simp; omega⟩
      · rcases List.mem_append.mp hx with hx | hx
        · have := hk x hx; omega
        · rw [List.mem_singleton.mp hx]; omega
      · rw [List.nodup_append]
        exact ⟨nd, by simp, fun a ha b hb => by rw [List.mem_singleton.mp hb]; have := hk a ha; omega⟩
    · simp only [jp, decide_false, wS, sem, Sm.val, Sm.tst, Sm.arg, Sm.itr, boolOf, truthOf, gT, gTs, zip_tup, seq_lst, seq_tup, lst_lst, Co.sem, oInt, Bo.sem, oAdd, oSub, oMul, oDiv, oMod, Bf.sem, oLen, oAbs, oInt1, oGcd, oNeg, oIx, Mt.sem, List.getElem?_cons_zero, List.getElem?_cons_succ, List.set_cons_zero, List.set_cons_succ, setAll, frz_lst, frz_dct, tru_bl, tru_int, oEq_int, oEq_str, Bool.false_bne, Bool.true_bne, if_true, if_false, Bool.false_eq_true, reduceIte, Bool.not_true, Bool.not_false, List.cons.injEq, true_and, and_true, List.length_cons, List.length_nil, Option.some.injEq, exists_eq_left']
      exact hC0 _ ⟨hs2, k1.tr k2.w, hi, ks, rfl, fun x hx => Nat.lt_succ_of_lt (hk x hx), nd, by omega⟩
  · rintro acc S1 ⟨hs1, k1, l1, ks, rfl, hk, nd, lk⟩ _
    simp only [List.length_map, List.length_range, Int.toNat_natCast] at hk lk
    refine ⟨s, c, _, ks.map (fun k => T.int (k : Nat)), rfl, rfl, hs1, by rw [List.length_map]; omega, fun vs p S2 pm np e2 hs2 k2 => ?_⟩
    obtain ⟨us, rfl, pm2⟩ := perm_map _ pm
    obtain ⟨ps, pc⟩ := hs1.ne np
    simp only [frzT, e2]
    have hrm : IsSrc (rm S2 p) s c := by
      obtain ⟨x1, x2, x3, x4, g1, g2, g3⟩ := hs2
      exact ⟨x1, x2, x3, x4, (rm_ne (Ne.symm ps)).trans g1, (rm_ne (Ne.symm pc)).trans g2, g3⟩
    refine k us _ (fun x hx => hk x (pm2.mem_iff.mp hx)) (pm2.nodup_iff.mpr nd) hrm fun b o eb hb hb' => ?_
    have h1 := k1 b o eb hb hb'
    have nb : b ≠ p := fun z => by rw [z, np] at h1; cases h1
    rw [rm_ne nb]
    exact k2 b o h1 hb hb'
end TP

set_option maxHeartbeats 1000000
namespace TP
open PySem PySem.Spec PyProof.Rows L2

/-! ### walls: crossed, left, let -/
def b_crosses_0 : Stm := .cons (.ret (.cmp .gt (.bin .mul (.var 3) (.ix (.ix (.var 0) (.var 2)) (.int 0))) (.int 0))) .nil
def b_crosses_1 : Stm := .cons (.asg (.tup (.cons (.nm 2) (.cons (.nm 3) .nil))) (.var 1)) b_crosses_0
def n_crosses : List Str := ["rate", "wall", "level", "side"]
abbrev b_crosses : Stm := b_crosses_1
def b_leaves_0 : Stm := .cons (.ret (.cmp .lt (.bin .mul (.var 3) (.ix (.ix (.var 0) (.var 2)) (.int 0))) (.int 0))) .nil
def b_leaves_1 : Stm := .cons (.asg (.tup (.cons (.nm 2) (.cons (.nm 3) .nil))) (.var 1)) b_leaves_0
def n_leaves : List Str := ["rate", "wall", "level", "side"]
abbrev b_leaves : Stm := b_leaves_1

def n_crosses_one : List Str := ["rate", "walls", "wall"]
abbrev b_crosses_one : Stm := (.cons (.ret (.blt .any (.cons (.frz (.lc [("wall", 2)] (.nm 2) (.iA (.var 1)) (.call 0 (.cons (.var 0) (.cons (.var 2) .nil))))) .nil))) .nil)

def n_leaves_one : List Str := ["rate", "walls", "wall"]
abbrev b_leaves_one : Stm := (.cons (.ret (.blt .any (.cons (.frz (.lc [("wall", 2)] (.nm 2) (.iA (.var 1)) (.call 0 (.cons (.var 0) (.cons (.var 2) .nil))))) .nil))) .nil)

def n_holds : List Str := ["rates", "lot", "walls", "k"]
abbrev b_holds : Stm := (.cons (.ret (.blt .all (.cons (.frz (.lc [("k", 3)] (.nm 3) (.iA (.var 1)) (.or (.call 1 (.cons (.ix (.var 0) (.var 3)) (.cons (.var 2) .nil))) (.one (.not (.call 0 (.cons (.ix (.var 0) (.var 3)) (.cons (.var 2) .nil)))))))) .nil))) .nil)

def n_l_crosses : List Str := ["_law_rate", "_law_shut"]
abbrev b_l_crosses : Stm := (.cons (.ret (.cmp .gt (.bin .mul (.ix (.ix (.var 0) (.ix (.var 1) (.int 0))) (.int 0)) (.ix (.var 1) (.int 1))) (.int 0))) .nil)

def n_l_leaves : List Str := ["_law_rate", "_law_shut"]
abbrev b_l_leaves : Stm := (.cons (.ret (.cmp .lt (.bin .mul (.ix (.ix (.var 0) (.ix (.var 1) (.int 0))) (.int 0)) (.ix (.var 1) (.int 1))) (.int 0))) .nil)

def n_l_is_let : List Str := ["_law_rate", "_law_shuts", "_law_shut"]
abbrev b_l_is_let : Stm := (.cons (.ret (.not (.blt .any (.cons (.frz (.lc [("_law_shut", 2)] (.nm 2) (.iA (.var 1)) (.call 0 (.cons (.var 0) (.cons (.var 2) .nil))))) .nil)))) .nil)
abbrev Wall := Nat × Int
def wallT (w : Wall) : T := .tup [.int w.1, .int w.2]
def crossB (r : List Rat) (w : Wall) : Bool := decide (0 < w.2 * (r.getD w.1 0).num)
def leaveB (r : List Rat) (w : Wall) : Bool := decide (w.2 * (r.getD w.1 0).num < 0)
def WallOk (n : Nat) (w : Wall) : Prop := w.1 < n ∧ -1 ≤ w.2 ∧ w.2 ≤ 1
theorem at_row {r : List Rat} {i : Nat} (h : i < r.length) : atT (r.map rT) (i : Int) = some (rT (r.getD i 0)) := by
  rw [at_nat (by omega) (by rw [List.length_map]; omega)]
  simp only [Int.toNat_natCast, List.getElem_map]
  rw [List.getD_eq_getElem?_getD, List.getElem?_eq_getElem h]
  rfl
theorem at_list {α : Type} {f : α → T} {r : List α} {i : Nat} {a : α} (h : r[i]? = some a) : atT (r.map f) (i : Int) = some (f a) := by
  have hi := (List.getElem?_eq_some_iff.mp h).1
  rw [at_nat (by omega) (by rw [List.length_map]; omega)]
  simp only [Int.toNat_natCast, List.getElem_map]
  rw [(List.getElem?_eq_some_iff.mp h).2]
def spSideW (f : List Rat → Wall → Bool) : TSp := fun ts S R X => ∃ r w, ts = [rowT r, wallT w] ∧ WallOk r.length w ∧ R (.bl (f r w)) S
theorem side_ok {w : Wall} {n : Nat} {i : Int} (h : WallOk n w) : MulOk w.2 i ∧ MulOk i w.2 := ⟨.inl (.inl ⟨by have := h.2; omega, by have := h.2; omega⟩), .inl (.inr ⟨by have := h.2; omega, by have := h.2; omega⟩)⟩
theorem w_crosses (G : Gx) (N : List Str) (hN : N.length = 4)  (ts : List T) (S : Sto) (R : RP) (X : XP) (h : spSideW crossB ts S R X) : ts.length = 2 ∧ wS b_crosses G (startE N ts) S { nx := fun _ S' => R .non S', rt := R, xx := fun _ => X } := by
  obtain ⟨r, w, rfl, hw, k⟩ := h
  refine ⟨rfl, ?_⟩
  unfold startE
  rw [hN]
  show wS b_crosses G [some (.tup (r.map rT)), some (.tup [.int w.1, .int w.2]), none, none] S _
  simp only [b_crosses, b_crosses_1, b_crosses_0, wS, sem, Sm.val, Sm.tst, Sm.arg, Sm.itr, boolOf, truthOf, gT, gTs, zip_tup, seq_lst, seq_tup, lst_lst, Co.sem, oInt, Bo.sem, oAdd, oSub, oMul, oDiv, oMod, Bf.sem, oLen, oAbs, oInt1, oGcd, oNeg, oIx, Mt.sem, List.getElem?_cons_zero, List.getElem?_cons_succ, List.set_cons_zero, List.set_cons_succ, setAll, frz_lst, frz_dct, tru_bl, tru_int, oEq_int, oEq_str, Bool.false_bne, Bool.true_bne, if_true, if_false, Bool.false_eq_true, reduceIte, Bool.not_true, Bool.not_false, List.cons.injEq, true_and, and_true, List.length_cons, List.length_nil, Option.some.injEq, exists_eq_left']
  refine ⟨_, at_row hw.1, ?_⟩
  simp only [rT, pr, at_nought]
  exact ⟨_, rfl, (side_ok hw).1, k⟩
theorem w_leaves (G : Gx) (N : List Str) (hN : N.length = 4)  (ts : List T) (S : Sto) (R : RP) (X : XP) (h : spSideW leaveB ts S R X) : ts.length = 2 ∧ wS b_leaves G (startE N ts) S { nx := fun _ S' => R .non S', rt := R, xx := fun _ => X } := by
  obtain ⟨r, w, rfl, hw, k⟩ := h
  refine ⟨rfl, ?_⟩
  unfold startE
  rw [hN]
  show wS b_leaves G [some (.tup (r.map rT)), some (.tup [.int w.1, .int w.2]), none, none] S _
  simp only [b_leaves, b_leaves_1, b_leaves_0, wS, sem, Sm.val, Sm.tst, Sm.arg, Sm.itr, boolOf, truthOf, gT, gTs, zip_tup, seq_lst, seq_tup, lst_lst, Co.sem, oInt, Bo.sem, oAdd, oSub, oMul, oDiv, oMod, Bf.sem, oLen, oAbs, oInt1, oGcd, oNeg, oIx, Mt.sem, List.getElem?_cons_zero, List.getElem?_cons_succ, List.set_cons_zero, List.set_cons_succ, setAll, frz_lst, frz_dct, tru_bl, tru_int, oEq_int, oEq_str, Bool.false_bne, Bool.true_bne, if_true, if_false, Bool.false_eq_true, reduceIte, Bool.not_true, Bool.not_false, List.cons.injEq, true_and, and_true, List.length_cons, List.length_nil, Option.some.injEq, exists_eq_left']
  refine ⟨_, at_row hw.1, ?_⟩
  simp only [rT, pr, at_nought]
  exact ⟨_, rfl, (side_ok hw).1, k⟩
theorem w_lcrosses (G : Gx) (N : List Str) (hN : N.length = 2)  (ts : List T) (S : Sto) (R : RP) (X : XP) (h : spSideW crossB ts S R X) : ts.length = 2 ∧ wS b_l_crosses G (startE N ts) S { nx := fun _ S' => R .non S', rt := R, xx := fun _ => X } := by
  obtain ⟨r, w, rfl, hw, k⟩ := h
  refine ⟨rfl, ?_⟩
  unfold startE
  rw [hN]
  show wS b_l_crosses G [some (.tup (r.map rT)), some (.tup [.int w.1, .int w.2])] S _
  unfold crossB at k
  rw [Int.mul_comm] at k
  simp only [b_l_crosses, wS, sem, Sm.val, Sm.tst, Sm.arg, Sm.itr, boolOf, truthOf, gT, gTs, zip_tup, seq_lst, seq_tup, lst_lst, Co.sem, oInt, Bo.sem, oAdd, oSub, oMul, oDiv, oMod, Bf.sem, oLen, oAbs, oInt1, oGcd, oNeg, oIx, Mt.sem, List.getElem?_cons_zero, List.getElem?_cons_succ, List.set_cons_zero, List.set_cons_succ, setAll, frz_lst, frz_dct, tru_bl, tru_int, oEq_int, oEq_str, Bool.false_bne, Bool.true_bne, if_true, if_false, Bool.false_eq_true, reduceIte, Bool.not_true, Bool.not_false, List.cons.injEq, true_and, and_true, List.length_cons, List.length_nil, Option.some.injEq, exists_eq_left', at_one, at_nought]
  refine ⟨_, at_row hw.1, ?_⟩
  simp only [rT, pr, at_nought, at_one, wS, sem, Sm.val, Sm.tst, Sm.arg, Sm.itr, boolOf, truthOf, gT, gTs, zip_tup, seq_lst, seq_tup, lst_lst, Co.sem, oInt, Bo.sem, oAdd, oSub, oMul, oDiv, oMod, Bf.sem, oLen, oAbs, oInt1, oGcd, oNeg, oIx, Mt.sem, List.getElem?_cons_zero, List.getElem?_cons_succ, List.set_cons_zero, List.set_cons_succ, setAll, frz_lst, frz_dct, tru_bl, tru_int, oEq_int, oEq_str, Bool.false_bne, Bool.true_bne, if_true, if_false, Bool.false_eq_true, reduceIte, Bool.not_true, Bool.not_false, List.cons.injEq, true_and, and_true, List.length_cons, List.length_nil, Option.some.injEq, exists_eq_left']
  exact ⟨(side_ok hw).2, k⟩
theorem w_lleaves (G : Gx) (N : List Str) (hN : N.length = 2)  (ts : List T) (S : Sto) (R : RP) (X : XP) (h : spSideW leaveB ts S R X) : ts.length = 2 ∧ wS b_l_leaves G (startE N ts) S { nx := fun _ S' => R .non S', rt := R, xx := fun _ => X } := by
  obtain ⟨r, w, rfl, hw, k⟩ := h
  refine ⟨rfl, ?_⟩
  unfold startE
  rw [hN]
  show wS b_l_leaves G [some (.tup (r.map rT)), some (.tup [.int w.1, .int w.2])] S _
  unfold leaveB at k
  rw [Int.mul_comm] at k
  simp only [b_l_leaves, wS, sem, Sm.val, Sm.tst, Sm.arg, Sm.itr, boolOf, truthOf, gT, gTs, zip_tup, seq_lst, seq_tup, lst_lst, Co.sem, oInt, Bo.sem, oAdd, oSub, oMul, oDiv, oMod, Bf.sem, oLen, oAbs, oInt1, oGcd, oNeg, oIx, Mt.sem, List.getElem?_cons_zero, List.getElem?_cons_succ, List.set_cons_zero, List.set_cons_succ, setAll, frz_lst, frz_dct, tru_bl, tru_int, oEq_int, oEq_str, Bool.false_bne, Bool.true_bne, if_true, if_false, Bool.false_eq_true, reduceIte, Bool.not_true, Bool.not_false, List.cons.injEq, true_and, and_true, List.length_cons, List.length_nil, Option.some.injEq, exists_eq_left', at_one, at_nought]
  refine ⟨_, at_row hw.1, ?_⟩
  simp only [rT, pr, at_nought, at_one, wS, sem, Sm.val, Sm.tst, Sm.arg, Sm.itr, boolOf, truthOf, gT, gTs, zip_tup, seq_lst, seq_tup, lst_lst, Co.sem, oInt, Bo.sem, oAdd, oSub, oMul, oDiv, oMod, Bf.sem, oLen, oAbs, oInt1, oGcd, oNeg, oIx, Mt.sem, List.getElem?_cons_zero, List.getElem?_cons_succ, List.set_cons_zero, List.set_cons_succ, setAll, frz_lst, frz_dct, tru_bl, tru_int, oEq_int, oEq_str, Bool.false_bne, Bool.true_bne, if_true, if_false, Bool.false_eq_true, reduceIte, Bool.not_true, Bool.not_false, List.cons.injEq, true_and, and_true, List.length_cons, List.length_nil, Option.some.injEq, exists_eq_left']
  exact ⟨(side_ok hw).2, k⟩
def spOneW (f : List Rat → Wall → Bool) : TSp := fun ts S R X => ∃ r x, ∃ ws : List Wall, ts = [rowT r, x] ∧ seqOf S x = some (ws.map wallT) ∧ (∀ w ∈ ws, WallOk r.length w) ∧ ws.length ≤ 1000 ∧ R (.bl (ws.any (f r))) S
theorem any_bls (bs : List Bool) {S : Sto} {R : RP} (k : R (.bl (bs.any id)) S) : oAll true [.lst (bs.map .bl)] S R := by
  simp only [oAll, lstOf]
  exact ⟨bs, rfl, k⟩
theorem all_bls (bs : List Bool) {S : Sto} {R : RP} (k : R (.bl (bs.all id)) S) : oAll false [.lst (bs.map .bl)] S R := by
  simp only [oAll, lstOf]
  exact ⟨bs, rfl, k⟩
theorem w_crossesOne (G : Gx) (N : List Str) (hN : N.length = 3) {x0 : Str} (h0 : G.fns[0]? = some (x0, spSideW crossB)) (ts : List T) (S : Sto) (R : RP) (X : XP) (h : spOneW crossB ts S R X) : ts.length = 2 ∧ wS b_crosses_one G (startE N ts) S { nx := fun _ S' => R .non S', rt := R, xx := fun _ => X } := by
  obtain ⟨r, x, ws, rfl, hx, hw, lw, k⟩ := h
  refine ⟨rfl, ?_⟩
  unfold startE
  rw [hN]
  show wS b_crosses_one G [some (.tup (r.map rT)), some x, none] S _
  simp only [b_crosses_one, wS, sem, Sm.val, Sm.tst, Sm.arg, Sm.itr, boolOf, truthOf, gT, gTs, zip_tup, seq_lst, seq_tup, lst_lst, Co.sem, oInt, Bo.sem, oAdd, oSub, oMul, oDiv, oMod, Bf.sem, oLen, oAbs, oInt1, oGcd, oNeg, oIx, Mt.sem, List.getElem?_cons_zero, List.getElem?_cons_succ, List.set_cons_zero, List.set_cons_succ, setAll, frz_lst, frz_dct, tru_bl, tru_int, oEq_int, oEq_str, Bool.false_bne, Bool.true_bne, if_true, if_false, Bool.false_eq_true, reduceIte, Bool.not_true, Bool.not_false, List.cons.injEq, true_and, and_true, List.length_cons, List.length_nil, Option.some.injEq, exists_eq_left', hx]
  refine wLc_of wallT (fun w => .bl (crossB r w)) (gd_of hx) (by simp only [List.length_nil]; exact Nat.le_trans (show _ ≤ 1000 by omega) (by decide)) ?_ fun _ => ?_
  · intro w hm C hC
    simp only [wS, sem, Sm.val, Sm.tst, Sm.arg, Sm.itr, boolOf, truthOf, gT, gTs, zip_tup, seq_lst, seq_tup, lst_lst, Co.sem, oInt, Bo.sem, oAdd, oSub, oMul, oDiv, oMod, Bf.sem, oLen, oAbs, oInt1, oGcd, oNeg, oIx, Mt.sem, List.getElem?_cons_zero, List.getElem?_cons_succ, List.set_cons_zero, List.set_cons_succ, setAll, frz_lst, frz_dct, tru_bl, tru_int, oEq_int, oEq_str, Bool.false_bne, Bool.true_bne, if_true, if_false, Bool.false_eq_true, reduceIte, Bool.not_true, Bool.not_false, List.cons.injEq, true_and, and_true, List.length_cons, List.length_nil, Option.some.injEq, exists_eq_left', wipeE, List.map_cons, List.map_nil, h0, spSideW]
    exact ⟨r, w, ⟨rfl, rfl⟩, hw w hm, hC⟩
  · have e : ws.map (fun w => T.bl (crossB r w)) = (ws.map (crossB r)).map .bl := by rw [List.map_map]; rfl
    rw [List.nil_append, e]
    refine any_bls _ ?_
    rw [List.any_map]
    exact k
theorem w_leavesOne (G : Gx) (N : List Str) (hN : N.length = 3) {x0 : Str} (h0 : G.fns[0]? = some (x0, spSideW leaveB)) (ts : List T) (S : Sto) (R : RP) (X : XP) (h : spOneW leaveB ts S R X) : ts.length = 2 ∧ wS b_leaves_one G (startE N ts) S { nx := fun _ S' => R .non S', rt := R, xx := fun _ => X } := by
  obtain ⟨r, x, ws, rfl, hx, hw, lw, k⟩ := h
  refine ⟨rfl, ?_⟩
  unfold startE
  rw [hN]
  show wS b_leaves_one G [some (.tup (r.map rT)), some x, none] S _
  simp only [b_leaves_one, wS, sem, Sm.val, Sm.tst, Sm.arg, Sm.itr, boolOf, truthOf, gT, gTs, zip_tup, seq_lst, seq_tup, lst_lst, Co.sem, oInt, Bo.sem, oAdd, oSub, oMul, oDiv, oMod, Bf.sem, oLen, oAbs, oInt1, oGcd, oNeg, oIx, Mt.sem, List.getElem?_cons_zero, List.getElem?_cons_succ, List.set_cons_zero, List.set_cons_succ, setAll, frz_lst, frz_dct, tru_bl, tru_int, oEq_int, oEq_str, Bool.false_bne, Bool.true_bne, if_true, if_false, Bool.false_eq_true, reduceIte, Bool.not_true, Bool.not_false, List.cons.injEq, true_and, and_true, List.length_cons, List.length_nil, Option.some.injEq, exists_eq_left', hx]
  refine wLc_of wallT (fun w => .bl (leaveB r w)) (gd_of hx) (by simp only [List.length_nil]; exact Nat.le_trans (show _ ≤ 1000 by omega) (by decide)) ?_ fun _ => ?_
  · intro w hm C hC
    simp only [wS, sem, Sm.val, Sm.tst, Sm.arg, Sm.itr, boolOf, truthOf, gT, gTs, zip_tup, seq_lst, seq_tup, lst_lst, Co.sem, oInt, Bo.sem, oAdd, oSub, oMul, oDiv, oMod, Bf.sem, oLen, oAbs, oInt1, oGcd, oNeg, oIx, Mt.sem, List.getElem?_cons_zero, List.getElem?_cons_succ, List.set_cons_zero, List.set_cons_succ, setAll, frz_lst, frz_dct, tru_bl, tru_int, oEq_int, oEq_str, Bool.false_bne, Bool.true_bne, if_true, if_false, Bool.false_eq_true, reduceIte, Bool.not_true, Bool.not_false, List.cons.injEq, true_and, and_true, List.length_cons, List.length_nil, Option.some.injEq, exists_eq_left', wipeE, List.map_cons, List.map_nil, h0, spSideW]
    exact ⟨r, w, ⟨rfl, rfl⟩, hw w hm, hC⟩
  · have e : ws.map (fun w => T.bl (leaveB r w)) = (ws.map (leaveB r)).map .bl := by rw [List.map_map]; rfl
    rw [List.nil_append, e]
    refine any_bls _ ?_
    rw [List.any_map]
    exact k
/-- whether a rate is let -/
def letB (ws : List Wall) (r : List Rat) : Bool := !ws.any (crossB r)
def spLet : TSp := fun ts S R X => ∃ r x, ∃ ws : List Wall, ts = [rowT r, x] ∧ seqOf S x = some (ws.map wallT) ∧ (∀ w ∈ ws, WallOk r.length w) ∧ ws.length ≤ 1000 ∧ R (.bl (letB ws r)) S
theorem w_lisLet (G : Gx) (N : List Str) (hN : N.length = 3) {x0 : Str} (h0 : G.fns[0]? = some (x0, spSideW crossB)) (ts : List T) (S : Sto) (R : RP) (X : XP) (h : spLet ts S R X) : ts.length = 2 ∧ wS b_l_is_let G (startE N ts) S { nx := fun _ S' => R .non S', rt := R, xx := fun _ => X } := by
  obtain ⟨r, x, ws, rfl, hx, hw, lw, k⟩ := h
  refine ⟨rfl, ?_⟩
  unfold startE
  rw [hN]
  show wS b_l_is_let G [some (.tup (r.map rT)), some x, none] S _
  simp only [b_l_is_let, wS, sem, Sm.val, Sm.tst, Sm.arg, Sm.itr, boolOf, truthOf, gT, gTs, zip_tup, seq_lst, seq_tup, lst_lst, Co.sem, oInt, Bo.sem, oAdd, oSub, oMul, oDiv, oMod, Bf.sem, oLen, oAbs, oInt1, oGcd, oNeg, oIx, Mt.sem, List.getElem?_cons_zero, List.getElem?_cons_succ, List.set_cons_zero, List.set_cons_succ, setAll, frz_lst, frz_dct, tru_bl, tru_int, oEq_int, oEq_str, Bool.false_bne, Bool.true_bne, if_true, if_false, Bool.false_eq_true, reduceIte, Bool.not_true, Bool.not_false, List.cons.injEq, true_and, and_true, List.length_cons, List.length_nil, Option.some.injEq, exists_eq_left', hx]
  refine wLc_of wallT (fun w => .bl (crossB r w)) (gd_of hx) (by simp only [List.length_nil]; exact Nat.le_trans (show _ ≤ 1000 by omega) (by decide)) ?_ fun _ => ?_
  · intro w hm C hC
    simp only [wS, sem, Sm.val, Sm.tst, Sm.arg, Sm.itr, boolOf, truthOf, gT, gTs, zip_tup, seq_lst, seq_tup, lst_lst, Co.sem, oInt, Bo.sem, oAdd, oSub, oMul, oDiv, oMod, Bf.sem, oLen, oAbs, oInt1, oGcd, oNeg, oIx, Mt.sem, List.getElem?_cons_zero, List.getElem?_cons_succ, List.set_cons_zero, List.set_cons_succ, setAll, frz_lst, frz_dct, tru_bl, tru_int, oEq_int, oEq_str, Bool.false_bne, Bool.true_bne, if_true, if_false, Bool.false_eq_true, reduceIte, Bool.not_true, Bool.not_false, List.cons.injEq, true_and, and_true, List.length_cons, List.length_nil, Option.some.injEq, exists_eq_left', wipeE, List.map_cons, List.map_nil, h0, spSideW]
    exact ⟨r, w, ⟨rfl, rfl⟩, hw w hm, hC⟩
  · have e : ws.map (fun w => T.bl (crossB r w)) = (ws.map (crossB r)).map .bl := by rw [List.map_map]; rfl
    rw [List.nil_append, e]
    refine any_bls _ ?_
    rw [List.any_map]
    exact k
/-- whether each turn of a lot crosses one, or leaves none -/
def holdB (rs : List (List Rat)) (ks : List Nat) (ws : List Wall) : Bool := ks.all fun k => ws.any (crossB (rs.getD k [])) || !ws.any (leaveB (rs.getD k []))
def spHolds : TSp := fun ts S R X => ∃ x y z rs, ∃ ks : List Nat, ∃ ws : List Wall, ∃ n : Nat, ts = [x, y, z] ∧ seqOf S x = some (rs.map rowT) ∧ seqOf S y = some (ks.map fun k => .int (k : Nat)) ∧ seqOf S z = some (ws.map wallT) ∧ (∀ r ∈ rs, List.length r = n) ∧ (∀ k ∈ ks, k < rs.length) ∧ (∀ w ∈ ws, WallOk n w) ∧ ws.length ≤ 1000 ∧ ks.length ≤ 1000 ∧ R (.bl (holdB rs ks ws)) S
theorem getD_row {rs : List (List Rat)} {k : Nat} (h : k < rs.length) : rs[k]? = some (rs.getD k []) := by
  rw [List.getD_eq_getElem?_getD, List.getElem?_eq_getElem h]; rfl
theorem ix_seq {S : Sto} {x : T} {ts : List T} {i : Int} {t : T} {R : RP} (hx : seqOf S x = some ts) (e : atT ts i = some t) (k : R t S) : oIx x (.int i) S R := by
  unfold oIx
  cases x <;> simp only [seqOf, Option.some.injEq, reduceCtorEq] at hx
  case tup us => subst hx; exact ⟨t, e, k⟩
  case lst us => subst hx; exact ⟨t, e, k⟩
  case scr us => subst hx; exact ⟨t, e, k⟩
  case ref a =>
    split at hx
    · rename_i us ea
      cases hx
      simp only [seqOf, ea]
      exact ⟨t, e, k⟩
    · cases hx
theorem w_holds (G : Gx) (N : List Str) (hN : N.length = 4) {x0 : Str} (h0 : G.fns[0]? = some (x0, spOneW leaveB)) {x1 : Str} (h1 : G.fns[1]? = some (x1, spOneW crossB)) (ts : List T) (S : Sto) (R : RP) (X : XP) (h : spHolds ts S R X) : ts.length = 3 ∧ wS b_holds G (startE N ts) S { nx := fun _ S' => R .non S', rt := R, xx := fun _ => X } := by
  obtain ⟨x, y, z, rs, ks, ws, n, rfl, hx, hy, hz, hr, hk, hw, lw, lk, k⟩ := h
  refine ⟨rfl, ?_⟩
  unfold startE
  rw [hN]
  show wS b_holds G [some x, some y, some z, none] S _
  simp only [b_holds, wS, sem, Sm.val, Sm.arg, Sm.itr, List.getElem?_cons_zero, List.getElem?_cons_succ, hy, Bf.sem, frz_lst, h0, h1]
  refine wLc_of (fun k : Nat => T.int (k : Nat)) (fun k => .bl (ws.any (crossB (rs.getD k [])) || !ws.any (leaveB (rs.getD k [])))) (gd_of hy) (by simp only [List.length_nil]; exact Nat.le_trans (show _ ≤ 1000 by omega) (by decide)) ?_ fun _ => ?_
  · intro j hm C hC
    have e := at_list (f := rowT) (getD_row (hk j hm))
    have l : (rs.getD j []).length = n := hr _ (by rw [List.getD_eq_getElem?_getD, List.getElem?_eq_getElem (hk j hm)]; exact List.getElem_mem _)
    simp only [gT, wipeE, List.map_cons, List.map_nil, List.set_cons_zero, List.set_cons_succ, List.getElem?_cons_zero, List.getElem?_cons_succ]
    refine ix_seq hx e ⟨rs.getD j [], z, ws, rfl, hz, by rw [l]; exact hw, lw, ?_⟩
    cases cc : ws.any (crossB (rs.getD j [])) with
    | true =>
      simp only [cc, Bool.true_or] at hC ⊢
      exact hC
    | false =>
      simp only [cc, Bool.false_or] at hC ⊢
      refine ix_seq hx e ⟨rs.getD j [], z, ws, rfl, hz, by rw [l]; exact hw, lw, ?_⟩
      exact hC
  · have e : ks.map (fun k => T.bl (ws.any (crossB (rs.getD k [])) || !ws.any (leaveB (rs.getD k [])))) = (ks.map fun k => ws.any (crossB (rs.getD k [])) || !ws.any (leaveB (rs.getD k []))).map .bl := by rw [List.map_map]; rfl
    rw [List.nil_append, e]
    refine all_bls _ ?_
    rw [List.all_map]
    exact k
end TP

set_option maxHeartbeats 4000000
namespace TG
open PySem PySem.Spec PyProof.Rows L2 TP

/-! ### tame things: short tuples of small numbers, whatever else -/
mutual
def tame (b : Nat) : T → Bool
  | .int i => decide (i.natAbs < 2 ^ b)
  | .tup us => decide (us.length ≤ 45) && tames b us
  | .ref _ => false
  | .ty _ => false
  | _ => true
def tames (b : Nat) : List T → Bool
  | [] => true
  | t :: ts => tame b t && tames b ts
end
theorem tames_iff {b : Nat} : ∀ {ts : List T}, tames b ts = true ↔ ∀ t ∈ ts, tame b t = true
  | [] => by simp [tames]
  | t :: ts => by simp [tames, tames_iff (ts := ts)]
theorem tame_plain {b : Nat} {t : T} (h : tame b t = true) : plain t = true := by
  cases t <;> first | rfl | (simp [tame] at h)
theorem tame_tup {b : Nat} {us : List T} (h : tame b (.tup us) = true) : us.length ≤ 45 ∧ ∀ u ∈ us, tame b u = true := by
  simp only [tame, Bool.and_eq_true, decide_eq_true_eq] at h
  exact ⟨h.1, tames_iff.mp h.2⟩
theorem tame_mk {b : Nat} {us : List T} (l : us.length ≤ 45) (h : ∀ u ∈ us, tame b u = true) : tame b (.tup us) = true := by
  simp only [tame, Bool.and_eq_true, decide_eq_true_eq]
  exact ⟨l, tames_iff.mpr h⟩
mutual
theorem tame_up {a b : Nat} (l : a ≤ b) : ∀ t : T, tame a t = true → tame b t = true
  | .int i, h => by
    simp only [tame, decide_eq_true_eq] at h ⊢
    exact Nat.lt_of_lt_of_le h (Nat.pow_le_pow_right (by omega) l)
  | .tup us, h => by
    simp only [tame, Bool.and_eq_true] at h ⊢
    exact ⟨h.1, tames_up l us h.2⟩
  | .ref _, h => by simp [tame] at h
  | .ty _, h => by simp [tame] at h
  | .bl _, _ => by simp [tame]
  | .non, _ => by simp [tame]
  | .str _, _ => by simp [tame]
  | .lst _, _ => by simp [tame]
  | .scr _, _ => by simp [tame]
  | .dct _ _, _ => by simp [tame]
theorem tames_up {a b : Nat} (l : a ≤ b) : ∀ ts : List T, tames a ts = true → tames b ts = true
  | [], _ => by simp [tames]
  | t :: ts, h => by
    simp only [tames, Bool.and_eq_true] at h ⊢
    exact ⟨tame_up l t h.1, tames_up l ts h.2⟩
end
theorem tame_deep {b : Nat} {t : T} (h : tame b t = true) : deepB t = true := by
  have kid : ∀ u : T, tame b u = true → kidB u = true := fun u hu => by
    unfold kidB
    rw [tame_plain hu, Bool.true_and]
    split
    · exact List.all_eq_true.mpr fun x hx => tame_plain ((tame_tup hu).2 x hx)
    · rfl
  unfold deepB
  rw [tame_plain h, Bool.true_and]
  split
  · exact List.all_eq_true.mpr fun x hx => kid x ((tame_tup h).2 x hx)
  · rfl
/-! ### good things: tame, and short when they are shown -/
def Gd (k m : Nat) (t : T) : Prop := Sh k m t ∧ tame 60 t = true
theorem Gd.up {k m k' m' : Nat} {t : T} (h : Gd k m t) (a : k ≤ k') (b : m ≤ m') : Gd k' m' t := ⟨h.1.up a b, h.2⟩
theorem gd_tup {k m : Nat} {ts : List T} (h : ∀ t ∈ ts, Gd k m t) (l : ts.length ≤ 45) : Gd (k + 1) (ts.length * (m + 2) + 3) (.tup ts) := ⟨sh_tup fun t ht => (h t ht).1, tame_mk l fun t ht => (h t ht).2⟩
theorem gd_lst {k m : Nat} {ts : List T} (h : ∀ t ∈ ts, Gd k m t) : Gd (k + 1) (ts.length * (m + 2) + 3) (.lst ts) := ⟨sh_lst fun t ht => (h t ht).1, by simp [tame]⟩
theorem gd_int {i : Int} (h : i.natAbs < 2 ^ 60) : Gd 0 1921 (.int i) := ⟨sh_int (Nat.lt_of_lt_of_le h (Nat.pow_le_pow_right (by omega) (by omega))), decide_eq_true h⟩
def shK (k m : Nat) (t : T) : Bool := plain t && match toD t with
  | some d => fine d && decide (d.depth ≤ k) && decide (big d ≤ m)
  | none => false
theorem sh_ofK {k m : Nat} {t : T} (h : shK k m t = true) : Sh k m t := by
  unfold shK at h
  rw [Bool.and_eq_true] at h
  refine ⟨h.1, ?_⟩
  have h := h.2
  split at h
  · rename_i d e
    simp only [Bool.and_eq_true, decide_eq_true_eq] at h
    exact ⟨d, e, h.1.1, h.1.2, h.2⟩
  · cases h
/-- odd things, and others that stand as they are -/
def gdB (t : T) : Bool := shK 4 6000 t && tame 60 t
theorem gdb_of {t : T} (h : gdB t = true) : Gd 4 6000 t := by
  unfold gdB at h
  rw [Bool.and_eq_true] at h
  exact ⟨sh_ofK h.1, h.2⟩
theorem gd_dct {k m : Nat} {t : T} (h : Gd k m t) : Gd (k + 1) (m + 30) (.dct [.inr "a"] [t]) := by
  obtain ⟨⟨hp, d, e1, e2, e3, e4⟩, _⟩ := h
  refine ⟨⟨rfl, .dict [(.str "a", d)], ?_, ?_, ?_, ?_⟩, by simp [tame]⟩
  · simp only [toD, toDs, e1, Option.bind_some, List.length_cons, List.length_nil, if_true, List.map_cons, List.map_nil, keyD, List.zip_cons_cons, List.zip_nil_right]
  · simp only [fine, finek, e2, Bool.and_true]
    decide +kernel
  · simp only [PyData.depth, PyData.depthKv]
    omega
  · simp only [big, bigk]
    have : ("a" : Str).length = 1 := by decide +kernel
    omega
/-! ### expressions of which it is enough to know what kind of thing they tell -/
def Pr (G : Gx) (env : TP.Env) (e : E) (P : T → Prop) : Prop := ∀ (S : Sto) (R : RP) (X : XP), (∀ v, P v → R v S) → (sem G e).e env S R X
def PrL (G : Gx) (env : TP.Env) (as : E) (P : T → Prop) (n : Nat) : Prop := ∀ (S : Sto) (R : List T → Sto → Prop) (X : XP), (∀ ts, ts.length = n → (∀ t ∈ ts, P t) → R ts S) → (sem G as).a env S R X
def TupG (k m l : Nat) (v : T) : Prop := ∃ us, v = .tup us ∧ us.length ≤ l ∧ ∀ u ∈ us, Gd k m u
def LstG (P : T → Prop) (n : Nat) (v : T) : Prop := ∃ us, v = .lst us ∧ us.length = n ∧ ∀ u ∈ us, P u
section
variable {G : Gx} {env : TP.Env}
theorem e_frz {a : E} {S : Sto} {R : RP} {X : XP} : (sem G (.frz a)).e env S R X = (sem G a).e env S (fun x S1 => frzT S1 x R) X := rfl
theorem e_lst {a : E} {S : Sto} {R : RP} {X : XP} : (sem G (.lst a)).e env S R X = (sem G a).a env S (fun ts S1 => ts.length ≤ sizeLine ∧ ∀ p, S1 p = none → R (.ref p) (up S1 p (.lst ts))) X := rfl
theorem e_tup {a : E} {S : Sto} {R : RP} {X : XP} : (sem G (.tup a)).e env S R X = (sem G a).a env S (fun ts S1 => ts.length ≤ sizeLine ∧ R (.tup ts) S1) X := rfl
theorem a_cons {a b : E} {S : Sto} {R : List T → Sto → Prop} {X : XP} : (sem G (.cons a b)).a env S R X = (sem G a).e env S (fun x S1 => (sem G b).a env S1 (fun xs S2 => R (x :: xs) S2) X) X := rfl
theorem e_add {a b : E} {S : Sto} {R : RP} {X : XP} : (sem G (.bin .add a b)).e env S R X = (sem G a).e env S (fun x S1 => (sem G b).e env S1 (fun y S2 => oAdd x y S2 R) X) X := rfl
theorem Pr.imp {e : E} {P Q : T → Prop} (h : Pr G env e P) (i : ∀ v, P v → Q v) : Pr G env e Q := fun S R X k => h S R X fun v pv => k v (i v pv)
theorem Pr.use {e : E} {P : T → Prop} {S : Sto} {R : RP} {X : XP} (h : Pr G env e P) (k : ∀ v, P v → R v S) : (sem G e).e env S R X := h S R X k
theorem pr_var {i : Nat} {t : T} {P : T → Prop} (h : env[i]? = some (some t)) (p : P t) : Pr G env (.var i) P := fun S R X k => by
  show match env[i]? with | some (some t) => R t S | _ => False
  rw [h]; exact k t p
theorem pr_int {i : Int} {P : T → Prop} (p : P (.int i)) : Pr G env (.int i) P := fun S R X k => k _ p
theorem pr_sub {i j : Int} {P : T → Prop} (p : P (.int (i - j))) : Pr G env (.bin .sub (.int i) (.int j)) P := fun S R X k => k _ p
theorem pr_bl {i : Bool} {P : T → Prop} (p : P (.bl i)) : Pr G env (.bl i) P := fun S R X k => k _ p
theorem pr_non {P : T → Prop} (p : P .non) : Pr G env .non P := fun S R X k => k _ p
theorem pr_str {x : Str} {P : T → Prop} (p : P (.str x)) : Pr G env (.str x) P := fun S R X k => k _ p
theorem prl_nil {P : T → Prop} : PrL G env .nil P 0 := fun S R X k => k [] rfl (by simp)
theorem prl_cons {e as : E} {P : T → Prop} {n : Nat} (h : Pr G env e P) (t : PrL G env as P n) : PrL G env (.cons e as) P (n + 1) := fun S R X k => by
  rw [a_cons]
  exact h S _ X fun v pv => t S _ X fun ts l hts => k (v :: ts) (by simp [l]) fun u hu => by
    rcases List.mem_cons.mp hu with rfl | hu
    · exact pv
    · exact hts u hu
theorem pr_tup {as : E} {k m n : Nat} (h : PrL G env as (Gd k m) n) (l : n ≤ 45) : Pr G env (.tup as) (Gd (k + 1) (n * (m + 2) + 3)) := fun S R X q => by
  rw [e_tup]
  exact h S _ X fun ts e hts => ⟨by rw [e]; exact Nat.le_trans l (by decide), q _ (by rw [← e]; exact gd_tup hts (by omega))⟩
theorem pr_tupG {as : E} {k m n : Nat} (h : PrL G env as (Gd k m) n) (l : n ≤ 45) : Pr G env (.tup as) (TupG k m n) := fun S R X q => by
  rw [e_tup]
  exact h S _ X fun ts e hts => ⟨by rw [e]; exact Nat.le_trans l (by decide), q _ ⟨ts, rfl, by omega, hts⟩⟩
theorem TupG.gd {k m l : Nat} {v : T} (h : TupG k m l v) (ll : l ≤ 45) : Gd (k + 1) (l * (m + 2) + 3) v := by
  obtain ⟨us, rfl, l1, hu⟩ := h
  exact (gd_tup hu (by omega)).up (Nat.le_refl _) (by have := Nat.mul_le_mul_right (m + 2) l1; omega)
theorem TupG.up {k m l k' m' l' : Nat} {v : T} (h : TupG k m l v) (a : k ≤ k') (b : m ≤ m') (c : l ≤ l') : TupG k' m' l' v := by
  obtain ⟨us, rfl, l1, hu⟩ := h
  exact ⟨us, rfl, by omega, fun u hu' => (hu u hu').up a b⟩
theorem pr_add {a b : E} {k m l l' : Nat} (ha : Pr G env a (TupG k m l)) (hb : Pr G env b (TupG k m l')) (ll : l + l' ≤ 1000) : Pr G env (.bin .add a b) (TupG k m (l + l')) := fun S R X q => by
  rw [e_add]
  refine ha S _ X ?_
  rintro _ ⟨us, rfl, l1, hu⟩
  refine hb S _ X ?_
  rintro _ ⟨vs, rfl, l2, hv⟩
  simp only [oAdd]
  refine ⟨Nat.le_trans (show _ ≤ 1000 by omega) (by decide), q _ ⟨us ++ vs, rfl, by rw [List.length_append]; omega, fun u hu' => ?_⟩⟩
  rcases List.mem_append.mp hu' with h | h
  · exact hu u h
  · exact hv u h
theorem cut_mem {α : Type} {us : List α} {lo hi : Option Int} {u : α} (h : u ∈ cutT us lo hi) : u ∈ us := List.mem_of_mem_drop (List.mem_of_mem_take h)
theorem cut_len {α : Type} {us : List α} {lo hi : Option Int} : (cutT us lo hi).length ≤ us.length := by
  unfold cutT
  rw [List.length_take, List.length_drop]
  omega
theorem pr_sl {a lo hi : E} {k m l : Nat} {ls hs : List T} {i j : Option Int} (ha : Pr G env a (TupG k m l)) (h1 : ∀ S R X, R ls S → (sem G lo).a env S R X) (e1 : slP ls = some i) (h2 : ∀ S R X, R hs S → (sem G hi).a env S R X) (e2 : slP hs = some j) : Pr G env (.sl a lo hi) (TupG k m l) := fun S R X q => by
  show (sem G a).e env S _ X
  refine ha S _ X ?_
  rintro _ ⟨us, rfl, l1, hu⟩
  refine h1 S _ X ?_
  simp only [e1]
  refine h2 S _ X ?_
  simp only [e2]
  exact q _ ⟨_, rfl, Nat.le_trans cut_len l1, fun u hu' => hu u (cut_mem hu')⟩
theorem pr_rev {a : E} {k m l : Nat} (ha : Pr G env a (TupG k m l)) : Pr G env (.revl a) (TupG k m l) := fun S R X q => by
  show (sem G a).e env S _ X
  refine ha S _ X ?_
  rintro _ ⟨us, rfl, l1, hu⟩
  exact q _ ⟨_, rfl, by rw [List.length_reverse]; exact l1, fun u hu' => hu u (List.mem_reverse.mp hu')⟩
theorem pr_list {a : E} {k m l : Nat} (ha : Pr G env a (TupG k m l)) : Pr G env (.frz (.blt .list (.cons a .nil))) (Gd (k + 1) (l * (m + 2) + 3)) := fun S R X q => by
  rw [e_frz]
  show (sem G a).e env S (fun x S1 => oList [x] S1 fun x S2 => frzT S2 x R) X
  refine ha S _ X ?_
  rintro _ ⟨us, rfl, l1, hu⟩
  simp only [oList, seq_tup]
  intro p np
  simp only [frzT, up_same, rm_up np]
  exact q _ ((gd_lst hu).up (Nat.le_refl _) (by have := Nat.mul_le_mul_right (m + 2) l1; omega))
theorem pr_lst {as : E} {P : T → Prop} {n : Nat} (h : PrL G env as P n) (l : n ≤ 1000) : Pr G env (.frz (.lst as)) (LstG P n) := fun S R X q => by
  rw [e_frz, e_lst]
  refine h S _ X fun ts e hts => ⟨by rw [e]; exact Nat.le_trans l (by decide), fun p np => ?_⟩
  simp only [frzT, up_same, rm_up np]
  exact q _ ⟨ts, rfl, e, hts⟩
theorem pr_adds {a b : E} {P : T → Prop} {n n' : Nat} (ha : Pr G env a (LstG P n)) (hb : Pr G env b (LstG P n')) (l : n + n' ≤ 1000) : Pr G env (.frz (.bin .add a b)) (LstG P (n + n')) := fun S R X q => by
  rw [e_frz, e_add]
  refine ha S _ X ?_
  rintro _ ⟨us, rfl, l1, hu⟩
  refine hb S _ X ?_
  rintro _ ⟨vs, rfl, l2, hv⟩
  simp only [oAdd, lst_lst]
  refine ⟨Nat.le_trans (show _ ≤ 1000 by omega) (by decide), fun p np => ?_⟩
  simp only [frzT, up_same, rm_up np]
  refine q _ ⟨us ++ vs, rfl, by rw [List.length_append]; omega, fun u hu' => ?_⟩
  rcases List.mem_append.mp hu' with h | h
  · exact hu u h
  · exact hv u h
theorem pr_dd {a : E} {k m : Nat} (ha : Pr G env a (Gd k m)) : Pr G env (.frz (.ddis ["a"] (.cons a .nil))) (Gd (k + 1) (m + 30)) := fun S R X q => by
  rw [e_frz]
  show ∀ p, S p = none → _
  intro p np
  show (sem G a).e env (up S p (.dct [])) _ X
  refine ha _ _ X fun v pv => ?_
  refine ⟨rfl, up_same, ?_⟩
  have e : dputs [] ["a"] [v] = [(.inr "a", v)] := rfl
  rw [e, up_up]
  simp only [frzT, up_same, rm_up np, List.map_cons, List.map_nil]
  exact q _ (gd_dct pv)
end
def b_l_odd_0 : Stm := .cons (.ret (.ix (.var 1) (.call 0 (.cons (.var 0) (.cons (.blt .len (.cons (.var 1) .nil)) .nil))))) .nil
def b_l_odd_1 : Stm := .cons (.asg (.nm 1) (.frz (.bin .add (.var 1) (.frz (.lst (.cons (.frz (.ddis ["a"] (.cons (.int 1) .nil))) (.cons (.bin .sub (.int 0) (.int 1)) (.cons (.tup (.cons (.int 1) (.cons (.int 2) (.cons (.int 3) .nil)))) .nil)))))))) b_l_odd_0
def b_l_odd_2 : Stm := .cons (.asg (.nm 1) (.frz (.lst (.cons .non (.cons (.int 0) (.cons (.bl true) (.cons (.bl false) (.cons (.str "") (.cons (.str "ab") (.cons (.tup .nil) (.cons (.frz (.lst .nil)) (.cons (.frz .dnew) (.cons (.tup (.cons (.int 0) .nil)) (.cons (.tup (.cons (.tup (.cons (.int 0) (.cons (.int 1) .nil))) .nil)) (.cons (.frz (.lst (.cons (.tup (.cons (.int 0) (.cons (.int 1) .nil))) .nil))) (.cons (.tup (.cons .non .nil)) (.cons (.tup (.cons (.tup .nil) .nil)) (.cons (.tup (.cons (.frz (.lst .nil)) .nil)) .nil)))))))))))))))))) b_l_odd_1
def n_l_odd : List Str := ["_law_source", "_law_some"]
abbrev b_l_odd : Stm := b_l_odd_2
def b_l_bent_0 : Stm := .cons (.ret (.ix (.var 2) (.call 0 (.cons (.var 0) (.cons (.blt .len (.cons (.var 2) .nil)) .nil))))) .nil
def b_l_bent_1 : Stm := .cons (.asg (.nm 2) (.frz (.bin .add (.var 2) (.frz (.lst (.cons (.bin .add (.var 1) (.var 1)) (.cons (.frz (.blt .list (.cons (.var 1) .nil))) (.cons (.bin .add (.var 1) (.tup (.cons (.var 4) .nil))) (.cons (.sl (.var 1) .nop (.cons (.var 3) .nil)) (.cons (.bin .add (.var 1) (.sl (.var 1) (.cons (.neg (.int 1)) .nil) .nop)) (.cons (.frz (.ddis ["a"] (.cons (.var 1) .nil))) (.cons (.var 4) .nil)))))))))))) b_l_bent_0
def b_l_bent_2 : Stm := .cons (.asg (.nm 2) (.frz (.lst (.cons (.bin .add (.bin .add (.sl (.var 1) .nop (.cons (.var 3) .nil)) (.tup (.cons (.var 4) .nil))) (.sl (.var 1) (.cons (.var 3) .nil) .nop)) (.cons (.bin .add (.sl (.var 1) .nop (.cons (.var 3) .nil)) (.sl (.var 1) (.cons (.bin .add (.var 3) (.int 1)) .nil) .nop)) (.cons (.bin .add (.bin .add (.sl (.var 1) .nop (.cons (.var 3) .nil)) (.tup (.cons (.var 4) .nil))) (.sl (.var 1) (.cons (.bin .add (.var 3) (.int 1)) .nil) .nop)) (.cons (.revl (.var 1)) .nil))))))) b_l_bent_1
def b_l_bent_3 : Stm := .cons (.par [3, 4] (.cons (.call 0 (.cons (.var 0) (.cons (.bin .add (.blt .len (.cons (.var 1) .nil)) (.int 1)) .nil))) (.cons (.call 1 (.cons (.var 0) .nil)) .nil))) b_l_bent_2
def n_l_bent : List Str := ["_law_source", "_law_value", "_law_some", "_law_k", "_law_odd_here"]
abbrev b_l_bent : Stm := b_l_bent_3
theorem w_oddG (G : Gx) (N : List Str) (hN : N.length = 2) {x0 : Str} (h0 : G.fns[0]? = some (x0, spPick)) (ts : List T) (S : Sto) (R : RP) (X : XP) (h : spGive (fun u => gdB u = true) ts S R X) : ts.length = 1 ∧ wS b_l_odd G (startE N ts) S { nx := fun _ S' => R .non S', rt := R, xx := fun _ => X } := by
  obtain ⟨s, c, rfl, hs, k⟩ := h
  refine ⟨rfl, ?_⟩
  unfold startE
  rw [hN]
  show wS b_l_odd G [some (.ref s), none] S _
  have two : ∀ {i j : Nat}, i ≤ 100 → j ≤ 100 → i + j ≤ 1000 := fun a b => by omega
  have p1 : Pr G [some (.ref s), none] (.frz (.lst (.cons .non (.cons (.int 0) (.cons (.bl true) (.cons (.bl false) (.cons (.str "") (.cons (.str "ab") (.cons (.tup .nil) (.cons (.frz (.lst .nil)) (.cons (.frz .dnew) (.cons (.tup (.cons (.int 0) .nil)) (.cons (.tup (.cons (.tup (.cons (.int 0) (.cons (.int 1) .nil))) .nil)) (.cons (.frz (.lst (.cons (.tup (.cons (.int 0) (.cons (.int 1) .nil))) .nil))) (.cons (.tup (.cons .non .nil)) (.cons (.tup (.cons (.tup .nil) .nil)) (.cons (.tup (.cons (.frz (.lst .nil)) .nil)) .nil))))))))))))))))) (LstG (fun u => gdB u = true) 15) := by
    refine pr_lst ?_ (by omega)
    repeat' (first | exact prl_nil | apply prl_cons)
    all_goals intro S R X h
    all_goals simp only [wS, sem, Sm.val, Sm.tst, Sm.arg, Sm.itr, boolOf, truthOf, gT, gTs, zip_tup, seq_lst, seq_tup, lst_lst, Co.sem, oInt, Bo.sem, oAdd, oSub, oMul, oDiv, oMod, Bf.sem, oLen, oAbs, oInt1, oGcd, oNeg, oIx, Mt.sem, List.getElem?_cons_zero, List.getElem?_cons_succ, List.set_cons_zero, List.set_cons_succ, setAll, frz_lst, frz_dct, tru_bl, tru_int, oEq_int, oEq_str, Bool.false_bne, Bool.true_bne, if_true, if_false, Bool.false_eq_true, reduceIte, Bool.not_true, Bool.not_false, List.cons.injEq, true_and, and_true, List.length_cons, List.length_nil, Option.some.injEq, exists_eq_left']
    all_goals repeat (first | exact h _ (by decide +kernel) | refine And.intro (by decide) ?_ | intro _)
  simp only [b_l_odd, b_l_odd_2, wS]
  refine Pr.use p1 ?_
  rintro _ ⟨us, rfl, l1, hu⟩
  have p2 : Pr G [some (.ref s), some (.lst us)] (.frz (.bin .add (.var 1) (.frz (.lst (.cons (.frz (.ddis ["a"] (.cons (.int 1) .nil))) (.cons (.bin .sub (.int 0) (.int 1)) (.cons (.tup (.cons (.int 1) (.cons (.int 2) (.cons (.int 3) .nil)))) .nil))))))) (LstG (fun u => gdB u = true) (15 + 3)) := by
    refine pr_adds (pr_var rfl ⟨us, rfl, l1, hu⟩) (pr_lst ?_ (by omega)) (by omega)
    refine prl_cons ?_ (prl_cons ?_ (prl_cons ?_ prl_nil))
    · intro S R X h
      rw [e_frz]
      show ∀ p, S p = none → _
      intro p np
      refine ⟨rfl, up_same, ?_⟩
      have e : dputs [] ["a"] [T.int 1] = [(.inr "a", .int 1)] := rfl
      rw [e, up_up]
      simp only [frzT, up_same, rm_up np, List.map_cons, List.map_nil]
      exact h _ (by decide +kernel)
    · exact pr_sub (by decide +kernel)
    · intro S R X h
      exact ⟨by decide, h _ (by decide +kernel)⟩
  simp only [gT, List.set_cons_succ, List.set_cons_zero]
  simp only [b_l_odd_1, wS]
  refine Pr.use p2 ?_
  rintro _ ⟨vs, rfl, l2, hv⟩
  simp only [gT, List.set_cons_succ, List.set_cons_zero]
  simp only [b_l_odd_0, wS, sem, Sm.val, Sm.tst, Sm.arg, Sm.itr, boolOf, truthOf, gT, gTs, zip_tup, seq_lst, seq_tup, lst_lst, Co.sem, oInt, Bo.sem, oAdd, oSub, oMul, oDiv, oMod, Bf.sem, oLen, oAbs, oInt1, oGcd, oNeg, oIx, Mt.sem, List.getElem?_cons_zero, List.getElem?_cons_succ, List.set_cons_zero, List.set_cons_succ, setAll, frz_lst, frz_dct, tru_bl, tru_int, oEq_int, oEq_str, Bool.false_bne, Bool.true_bne, if_true, if_false, Bool.false_eq_true, reduceIte, Bool.not_true, Bool.not_false, List.cons.injEq, true_and, and_true, List.length_cons, List.length_nil, Option.some.injEq, exists_eq_left', h0, l2]
  refine pick_of hs (by omega) (by omega) fun j S2 a b hs2 k2 => ?_
  obtain ⟨t, e1, e3⟩ := at_in (us := vs) a (by omega)
  exact ⟨t, e1, k t S2 (hv t e3) hs2 k2⟩
/-- a value bent: what comes is good, a bit deeper and longer -/
def spBent : TSp := fun ts S R X => ∃ s c K M us, ts = [.ref s, .tup us] ∧ IsSrc S s c ∧ us.length ≤ 20 ∧ (∀ u ∈ us, Gd K M u) ∧ 4 ≤ K ∧ 6000 ≤ M ∧ ∀ u S', Gd (K + 2) (45 * (M + 2) + 33) u → IsSrc S' s c → Kept S S' s c → R u S'
theorem w_bent (G : Gx) (N : List Str) (hN : N.length = 5) {x0 : Str} (h0 : G.fns[0]? = some (x0, spPick)) {x1 : Str} (h1 : G.fns[1]? = some (x1, spGive (fun u => gdB u = true))) (ts : List T) (S : Sto) (R : RP) (X : XP) (h : spBent ts S R X) : ts.length = 2 ∧ wS b_l_bent G (startE N ts) S { nx := fun _ S' => R .non S', rt := R, xx := fun _ => X } := by
  obtain ⟨s, c, K, M, us, rfl, hs, lu, hu, hk, hm, k⟩ := h
  refine ⟨rfl, ?_⟩
  unfold startE
  rw [hN]
  show wS b_l_bent G [some (.ref s), some (.tup us), none, none, none] S _
  simp only [b_l_bent, b_l_bent_3, wS, sem, Sm.val, Sm.tst, Sm.arg, Sm.itr, boolOf, truthOf, gT, gTs, zip_tup, seq_lst, seq_tup, lst_lst, Co.sem, oInt, Bo.sem, oAdd, oSub, oMul, oDiv, oMod, Bf.sem, oLen, oAbs, oInt1, oGcd, oNeg, oIx, Mt.sem, List.getElem?_cons_zero, List.getElem?_cons_succ, List.set_cons_zero, List.set_cons_succ, setAll, frz_lst, frz_dct, tru_bl, tru_int, oEq_int, oEq_str, Bool.false_bne, Bool.true_bne, if_true, if_false, Bool.false_eq_true, reduceIte, Bool.not_true, Bool.not_false, List.cons.injEq, true_and, and_true, List.length_cons, List.length_nil, Option.some.injEq, exists_eq_left', h0, h1]
  refine pick_of hs (by omega) (by omega) fun j S1 j1 j2 hs1 k1 => ?_
  refine ⟨s, c, rfl, hs1, fun o S2 ho hs2 k2 => ?_⟩
  have ho := (gdb_of ho).up hk hm
  have fin : ∀ {l : Nat} {v : T}, TupG K M l v → l ≤ 45 → Gd (K + 2) (45 * (M + 2) + 33) v := fun h l => (h.gd (by omega)).up (by omega) (by have := Nat.mul_le_mul_right (M + 2) l; omega)
  have tv : ∀ o2, Pr G [some (.ref s), some (.tup us), o2, some (.int j), some o] (.var 1) (TupG K M 20) := fun o2 => pr_var rfl ⟨us, rfl, lu, hu⟩
  have ov : ∀ o2, Pr G [some (.ref s), some (.tup us), o2, some (.int j), some o] (.tup (.cons (.var 4) .nil)) (TupG K M 1) := fun o2 => pr_tupG (prl_cons (pr_var rfl ho) prl_nil) (by omega)
  have st : ∀ o2, Pr G [some (.ref s), some (.tup us), o2, some (.int j), some o] (.sl (.var 1) .nop (.cons (.var 3) .nil)) (TupG K M 20) := fun o2 => pr_sl (ls := []) (hs := [.int j]) (tv o2) (fun S R X h => h) rfl (fun S R X h => h) rfl
  have sf : ∀ o2, Pr G [some (.ref s), some (.tup us), o2, some (.int j), some o] (.sl (.var 1) (.cons (.var 3) .nil) .nop) (TupG K M 20) := fun o2 => pr_sl (ls := [.int j]) (hs := []) (tv o2) (fun S R X h => h) rfl (fun S R X h => h) rfl
  have sg : ∀ o2, Pr G [some (.ref s), some (.tup us), o2, some (.int j), some o] (.sl (.var 1) (.cons (.bin .add (.var 3) (.int 1)) .nil) .nop) (TupG K M 20) := fun o2 => pr_sl (ls := [.int (j + 1)]) (hs := []) (tv o2) (fun S R X h => h) rfl (fun S R X h => h) rfl
  have sm : ∀ o2, Pr G [some (.ref s), some (.tup us), o2, some (.int j), some o] (.sl (.var 1) (.cons (.neg (.int 1)) .nil) .nop) (TupG K M 20) := fun o2 => pr_sl (ls := [.int (-1)]) (hs := []) (tv o2) (fun S R X h => h) rfl (fun S R X h => h) rfl
  have s1 : ∀ o2, Pr G [some (.ref s), some (.tup us), o2, some (.int j), some o] (.bin .add (.sl (.var 1) .nop (.cons (.var 3) .nil)) (.tup (.cons (.var 4) .nil))) (TupG K M 21) := fun o2 => pr_add (st o2) (ov o2) (by omega)
  simp only [b_l_bent_2, wS]
  refine Pr.use (P := LstG (Gd (K + 2) (45 * (M + 2) + 33)) 4) (pr_lst (prl_cons (Pr.imp (pr_add (s1 _) (sf _) (by omega)) fun v h => fin h (by omega)) (prl_cons (Pr.imp (pr_add (st _) (sg _) (by omega)) fun v h => fin h (by omega)) (prl_cons (Pr.imp (pr_add (s1 _) (sg _) (by omega)) fun v h => fin h (by omega)) (prl_cons (Pr.imp (pr_rev (tv _)) fun v h => fin h (by omega)) prl_nil)))) (by omega)) ?_
  rintro _ ⟨ws, rfl, lw, hw⟩
  simp only [gT, List.set_cons_succ, List.set_cons_zero]
  simp only [b_l_bent_1, wS]
  refine Pr.use (P := LstG (Gd (K + 2) (45 * (M + 2) + 33)) (4 + 7)) (pr_adds (pr_var rfl ⟨ws, rfl, lw, hw⟩) (pr_lst (prl_cons (Pr.imp (pr_add (tv _) (tv _) (by omega)) fun v h => fin h (by omega)) (prl_cons (Pr.imp (pr_list (tv _)) fun v h => h.up (by omega) (by omega)) (prl_cons (Pr.imp (pr_add (tv _) (ov _) (by omega)) fun v h => fin h (by omega)) (prl_cons (Pr.imp (st _) fun v h => fin h (by omega)) (prl_cons (Pr.imp (pr_add (tv _) (sm _) (by omega)) fun v h => fin h (by omega)) (prl_cons (Pr.imp (pr_dd ((tv _).imp fun v h => h.gd (by omega))) fun v h => h.up (by omega) (by omega)) (prl_cons (Pr.imp (pr_var rfl ho) fun v h => h.up (by omega) (by omega)) prl_nil))))))) (by omega)) (by omega)) ?_
  rintro _ ⟨vs, rfl, lv, hv⟩
  simp only [gT, List.set_cons_succ, List.set_cons_zero]
  simp only [b_l_bent_0, wS, sem, Sm.val, Sm.tst, Sm.arg, Sm.itr, boolOf, truthOf, gT, gTs, zip_tup, seq_lst, seq_tup, lst_lst, Co.sem, oInt, Bo.sem, oAdd, oSub, oMul, oDiv, oMod, Bf.sem, oLen, oAbs, oInt1, oGcd, oNeg, oIx, Mt.sem, List.getElem?_cons_zero, List.getElem?_cons_succ, List.set_cons_zero, List.set_cons_succ, setAll, frz_lst, frz_dct, tru_bl, tru_int, oEq_int, oEq_str, Bool.false_bne, Bool.true_bne, if_true, if_false, Bool.false_eq_true, reduceIte, Bool.not_true, Bool.not_false, List.cons.injEq, true_and, and_true, List.length_cons, List.length_nil, Option.some.injEq, exists_eq_left', h0, lv]
  refine pick_of hs2 (by omega) (by omega) fun i S3 a b hs3 k3 => ?_
  obtain ⟨t, e1, e3⟩ := at_in (us := vs) a (by omega)
  exact ⟨t, e1, k t S3 (hv t e3) hs3 ((k1.tr k2).tr k3)⟩
end TG

set_option maxHeartbeats 4000000
namespace TG
open PySem PySem.Spec PyProof.Rows L2 TP

/-! ### the law's own row -/
def b_l_is_row_0 : Stm := .cons (.ret (.bl true)) .nil
def b_l_is_row_1 : Stm := .cons (.ifs (.or (.blt .any (.cons (.frz (.lc [("_law_x", 3)] (.nm 3) (.iA (.var 2)) (.isi (.var 3) .bool))) .nil)) (.or (.cmp .lt (.ix (.var 2) (.int 1)) (.int 1)) (.one (.cmp .ne (.call 0 (.cons (.ix (.var 2) (.int 0)) (.cons (.ix (.var 2) (.int 1)) .nil))) (.int 1))))) (.cons (.ret (.bl false)) .nil) .nil) .nil
def b_l_is_row_2 : Stm := .cons (.ifs (.or (.not (.isi (.var 2) .tuple)) (.or (.cmp .ne (.blt .len (.cons (.var 2) .nil)) (.int 2)) (.one (.blt .any (.cons (.frz (.lc [("_law_x", 3)] (.nm 3) (.iA (.var 2)) (.not (.isi (.var 3) .int)))) .nil))))) (.cons (.ret (.bl false)) .nil) .nil) b_l_is_row_1
def b_l_is_row_3 : Stm := .cons (.for_ (.nm 2) (.iA (.var 0)) b_l_is_row_2) b_l_is_row_0
def b_l_is_row_4 : Stm := .cons (.ifs (.or (.not (.isi (.var 0) .tuple)) (.one (.cmp .ne (.blt .len (.cons (.var 0) .nil)) (.var 1)))) (.cons (.ret (.bl false)) .nil) .nil) b_l_is_row_3
def n_l_is_row : List Str := ["_law_value", "_law_many", "_law_one", "_law_x"]
abbrev b_l_is_row : Stm := b_l_is_row_4
theorem any_bls (bs : List Bool) {S : Sto} {R : RP} (k : R (.bl (bs.any id)) S) : oAll true [.lst (bs.map .bl)] S R := by
  simp only [oAll, lst_lst]
  exact ⟨bs, rfl, k⟩
def spLRow : TSp := fun ts S R X => ∃ t m, ts = [t, .int m] ∧ tame 900 t = true ∧ R (.bl (isRow t m)) S
/-- a pair of integers, none of them True or False -/
def two (t : T) : Option (Int × Int) := match t with
  | .tup [.int a, .int b] => some (a, b)
  | _ => none
theorem isFr_two {t : T} (h : two t = none) : isFr t = false := by
  unfold isFr
  split
  · simp [two] at h
  · rfl
theorem take_all {us : List T} {p : T → Bool} {i : Nat} {t : T} (ht : us[i]? = some t) (h : (us.take i).all p = true) (ht2 : p t = true) : (us.take (i + 1)).all p = true := by
  rw [List.take_add_one, ht, List.all_append, h]
  simp [ht2]
theorem not_all {us : List T} {p : T → Bool} {i : Nat} {t : T} (ht : us[i]? = some t) (h : p t = false) : us.all p = false := by
  rw [List.all_eq_false]
  exact ⟨t, List.mem_of_getElem? ht, by rw [h]; decide⟩
theorem w_lrow (G : Gx) (N : List Str) (hN : N.length = 4) {x0 : Str} (h0 : G.fns[0]? = some (x0, spCommon)) (ts : List T) (S : Sto) (R : RP) (X : XP) (h : spLRow ts S R X) : ts.length = 2 ∧ wS b_l_is_row G (startE N ts) S { nx := fun _ S' => R .non S', rt := R, xx := fun _ => X } := by
  obtain ⟨t, m, rfl, hd, k⟩ := h
  refine ⟨rfl, ?_⟩
  unfold startE
  rw [hN]
  show wS b_l_is_row G [some t, some (.int m), none, none] S _
  have hp := tame_plain hd
  simp only [b_l_is_row, b_l_is_row_4, wS, sem, Sm.val, Sm.tst, Sm.arg, Sm.itr, boolOf, truthOf, gT, gTs, zip_tup, seq_lst, seq_tup, lst_lst, Co.sem, oInt, Bo.sem, oAdd, oSub, oMul, oDiv, oMod, Bf.sem, oLen, oAbs, oInt1, oGcd, oNeg, oIx, Mt.sem, List.getElem?_cons_zero, List.getElem?_cons_succ, List.set_cons_zero, List.set_cons_succ, setAll, frz_lst, frz_dct, tru_bl, tru_int, oEq_int, oEq_str, Bool.false_bne, Bool.true_bne, if_true, if_false, Bool.false_eq_true, reduceIte, Bool.not_true, Bool.not_false, List.cons.injEq, true_and, and_true, List.length_cons, List.length_nil, Option.some.injEq, exists_eq_left', oIsi_plain hp, tup_kind hp]
  cases t with
  | tup us =>
    obtain ⟨lu, hu⟩ := tame_tup hd
    simp only [isTup, wS, sem, Sm.val, Sm.tst, Sm.arg, Sm.itr, boolOf, truthOf, gT, gTs, zip_tup, seq_lst, seq_tup, lst_lst, Co.sem, oInt, Bo.sem, oAdd, oSub, oMul, oDiv, oMod, Bf.sem, oLen, oAbs, oInt1, oGcd, oNeg, oIx, Mt.sem, List.getElem?_cons_zero, List.getElem?_cons_succ, List.set_cons_zero, List.set_cons_succ, setAll, frz_lst, frz_dct, tru_bl, tru_int, oEq_int, oEq_str, Bool.false_bne, Bool.true_bne, if_true, if_false, Bool.false_eq_true, reduceIte, Bool.not_true, Bool.not_false, List.cons.injEq, true_and, and_true, List.length_cons, List.length_nil, Option.some.injEq, exists_eq_left']
    by_cases hl : (us.length : Int) = m
    · simp only [hl, decide_true, wS, sem, Sm.val, Sm.tst, Sm.arg, Sm.itr, boolOf, truthOf, gT, gTs, zip_tup, seq_lst, seq_tup, lst_lst, Co.sem, oInt, Bo.sem, oAdd, oSub, oMul, oDiv, oMod, Bf.sem, oLen, oAbs, oInt1, oGcd, oNeg, oIx, Mt.sem, List.getElem?_cons_zero, List.getElem?_cons_succ, List.set_cons_zero, List.set_cons_succ, setAll, frz_lst, frz_dct, tru_bl, tru_int, oEq_int, oEq_str, Bool.false_bne, Bool.true_bne, if_true, if_false, Bool.false_eq_true, reduceIte, Bool.not_true, Bool.not_false, List.cons.injEq, true_and, and_true, List.length_cons, List.length_nil, Option.some.injEq, exists_eq_left']
      simp only [isRow, hl, decide_true, Bool.true_and] at k
      simp only [b_l_is_row_3, wS, sem, Sm.val, Sm.tst, Sm.arg, Sm.itr, boolOf, truthOf, gT, gTs, zip_tup, seq_lst, seq_tup, lst_lst, Co.sem, oInt, Bo.sem, oAdd, oSub, oMul, oDiv, oMod, Bf.sem, oLen, oAbs, oInt1, oGcd, oNeg, oIx, Mt.sem, List.getElem?_cons_zero, List.getElem?_cons_succ, List.set_cons_zero, List.set_cons_succ, setAll, frz_lst, frz_dct, tru_bl, tru_int, oEq_int, oEq_str, Bool.false_bne, Bool.true_bne, if_true, if_false, Bool.false_eq_true, reduceIte, Bool.not_true, Bool.not_false, List.cons.injEq, true_and, and_true, List.length_cons, List.length_nil, Option.some.injEq, exists_eq_left']
      refine wFor_by (fun i e s => s = S ∧ (∃ a b, e = [some (.tup us), some (.int m), a, b]) ∧ (us.take i).all isFr = true) (fun _ _ _ _ => trivial) ?_ ?_ ⟨rfl, ⟨_, _, rfl⟩, rfl⟩
      · rintro i t e s' C ht ⟨rfl, ⟨a, b, rfl⟩, hall⟩ hC
        have htm := hu t (List.mem_of_getElem? ht)
        have hpt := tame_plain htm
        have bad : isFr t = false → R (.bl false) s' := fun q => by rw [not_all ht q] at k; exact k
        simp only [b_l_is_row_2, wS, sem, Sm.val, Sm.tst, Sm.arg, Sm.itr, boolOf, truthOf, gT, gTs, zip_tup, seq_lst, seq_tup, lst_lst, Co.sem, oInt, Bo.sem, oAdd, oSub, oMul, oDiv, oMod, Bf.sem, oLen, oAbs, oInt1, oGcd, oNeg, oIx, Mt.sem, List.getElem?_cons_zero, List.getElem?_cons_succ, List.set_cons_zero, List.set_cons_succ, setAll, frz_lst, frz_dct, tru_bl, tru_int, oEq_int, oEq_str, Bool.false_bne, Bool.true_bne, if_true, if_false, Bool.false_eq_true, reduceIte, Bool.not_true, Bool.not_false, List.cons.injEq, true_and, and_true, List.length_cons, List.length_nil, Option.some.injEq, exists_eq_left', oIsi_plain hpt, tup_kind hpt]
        cases t with
        | tup vs =>
          simp only [isTup, wS, sem, Sm.val, Sm.tst, Sm.arg, Sm.itr, boolOf, truthOf, gT, gTs, zip_tup, seq_lst, seq_tup, lst_lst, Co.sem, oInt, Bo.sem, oAdd, oSub, oMul, oDiv, oMod, Bf.sem, oLen, oAbs, oInt1, oGcd, oNeg, oIx, Mt.sem, List.getElem?_cons_zero, List.getElem?_cons_succ, List.set_cons_zero, List.set_cons_succ, setAll, frz_lst, frz_dct, tru_bl, tru_int, oEq_int, oEq_str, Bool.false_bne, Bool.true_bne, if_true, if_false, Bool.false_eq_true, reduceIte, Bool.not_true, Bool.not_false, List.cons.injEq, true_and, and_true, List.length_cons, List.length_nil, Option.some.injEq, exists_eq_left']
          obtain ⟨lv, hv⟩ := tame_tup htm
          by_cases hl2 : (vs.length : Int) = 2
          · simp only [hl2, decide_true, wS, sem, Sm.val, Sm.tst, Sm.arg, Sm.itr, boolOf, truthOf, gT, gTs, zip_tup, seq_lst, seq_tup, lst_lst, Co.sem, oInt, Bo.sem, oAdd, oSub, oMul, oDiv, oMod, Bf.sem, oLen, oAbs, oInt1, oGcd, oNeg, oIx, Mt.sem, List.getElem?_cons_zero, List.getElem?_cons_succ, List.set_cons_zero, List.set_cons_succ, setAll, frz_lst, frz_dct, tru_bl, tru_int, oEq_int, oEq_str, Bool.false_bne, Bool.true_bne, if_true, if_false, Bool.false_eq_true, reduceIte, Bool.not_true, Bool.not_false, List.cons.injEq, true_and, and_true, List.length_cons, List.length_nil, Option.some.injEq, exists_eq_left']
            refine wLc_map (fun u => .bl (!(kind u).sub .int)) trivial (by simp; exact Nat.le_trans (show vs.length ≤ 45 by omega) (by decide)) ?_ fun _ => ?_
            · intro u hu2 C2 hC2
              have pu := tame_plain (hv u hu2)
              simp only [wS, sem, Sm.val, Sm.tst, Sm.arg, Sm.itr, boolOf, truthOf, gT, gTs, zip_tup, seq_lst, seq_tup, lst_lst, Co.sem, oInt, Bo.sem, oAdd, oSub, oMul, oDiv, oMod, Bf.sem, oLen, oAbs, oInt1, oGcd, oNeg, oIx, Mt.sem, List.getElem?_cons_zero, List.getElem?_cons_succ, List.set_cons_zero, List.set_cons_succ, setAll, frz_lst, frz_dct, tru_bl, tru_int, oEq_int, oEq_str, Bool.false_bne, Bool.true_bne, if_true, if_false, Bool.false_eq_true, reduceIte, Bool.not_true, Bool.not_false, List.cons.injEq, true_and, and_true, List.length_cons, List.length_nil, Option.some.injEq, exists_eq_left', wipeE, List.map_cons, List.map_nil, List.mapIdx_cons, List.mapIdx_nil, oIsi_plain pu]
              exact hC2
            · simp only [List.nil_append]
              have e1 : vs.map (fun u => T.bl (!(kind u).sub .int)) = (vs.map fun u => !(kind u).sub .int).map .bl := by rw [List.map_map]; rfl
              rw [e1]
              refine any_bls _ ?_
              by_cases c1 : (vs.map fun u => !(kind u).sub .int).any id = true
              · rw [c1]
                simp only [wS, sem, Sm.val, Sm.tst, Sm.arg, Sm.itr, boolOf, truthOf, gT, gTs, zip_tup, seq_lst, seq_tup, lst_lst, Co.sem, oInt, Bo.sem, oAdd, oSub, oMul, oDiv, oMod, Bf.sem, oLen, oAbs, oInt1, oGcd, oNeg, oIx, Mt.sem, List.getElem?_cons_zero, List.getElem?_cons_succ, List.set_cons_zero, List.set_cons_succ, setAll, frz_lst, frz_dct, tru_bl, tru_int, oEq_int, oEq_str, Bool.false_bne, Bool.true_bne, if_true, if_false, Bool.false_eq_true, reduceIte, Bool.not_true, Bool.not_false, List.cons.injEq, true_and, and_true, List.length_cons, List.length_nil, Option.some.injEq, exists_eq_left']
                refine bad (isFr_two ?_)
                obtain ⟨x, hx, ex⟩ := List.any_eq_true.mp c1
                obtain ⟨u, hu3, rfl⟩ := List.mem_map.mp hx
                unfold two
                split
                · rename_i n d e
                  cases e
                  simp only [List.mem_cons, List.not_mem_nil, or_false] at hu3
                  rcases hu3 with rfl | rfl <;> exact absurd (show false = true from ex) (by decide)
                · rfl
              · rw [Bool.not_eq_true] at c1
                rw [c1]
                simp only [wS, sem, Sm.val, Sm.tst, Sm.arg, Sm.itr, boolOf, truthOf, gT, gTs, zip_tup, seq_lst, seq_tup, lst_lst, Co.sem, oInt, Bo.sem, oAdd, oSub, oMul, oDiv, oMod, Bf.sem, oLen, oAbs, oInt1, oGcd, oNeg, oIx, Mt.sem, List.getElem?_cons_zero, List.getElem?_cons_succ, List.set_cons_zero, List.set_cons_succ, setAll, frz_lst, frz_dct, tru_bl, tru_int, oEq_int, oEq_str, Bool.false_bne, Bool.true_bne, if_true, if_false, Bool.false_eq_true, reduceIte, Bool.not_true, Bool.not_false, List.cons.injEq, true_and, and_true, List.length_cons, List.length_nil, Option.some.injEq, exists_eq_left']
                simp only [b_l_is_row_1, wS, sem, Sm.val, Sm.tst, Sm.arg, Sm.itr, boolOf, truthOf, gT, gTs, zip_tup, seq_lst, seq_tup, lst_lst, Co.sem, oInt, Bo.sem, oAdd, oSub, oMul, oDiv, oMod, Bf.sem, oLen, oAbs, oInt1, oGcd, oNeg, oIx, Mt.sem, List.getElem?_cons_zero, List.getElem?_cons_succ, List.set_cons_zero, List.set_cons_succ, setAll, frz_lst, frz_dct, tru_bl, tru_int, oEq_int, oEq_str, Bool.false_bne, Bool.true_bne, if_true, if_false, Bool.false_eq_true, reduceIte, Bool.not_true, Bool.not_false, List.cons.injEq, true_and, and_true, List.length_cons, List.length_nil, Option.some.injEq, exists_eq_left']
                refine wLc_map (fun u => .bl ((kind u).sub .bool)) trivial (by simp; exact Nat.le_trans (show vs.length ≤ 45 by omega) (by decide)) ?_ fun _ => ?_
                · intro u hu2 C2 hC2
                  have pu := tame_plain (hv u hu2)
                  simp only [wS, sem, Sm.val, Sm.tst, Sm.arg, Sm.itr, boolOf, truthOf, gT, gTs, zip_tup, seq_lst, seq_tup, lst_lst, Co.sem, oInt, Bo.sem, oAdd, oSub, oMul, oDiv, oMod, Bf.sem, oLen, oAbs, oInt1, oGcd, oNeg, oIx, Mt.sem, List.getElem?_cons_zero, List.getElem?_cons_succ, List.set_cons_zero, List.set_cons_succ, setAll, frz_lst, frz_dct, tru_bl, tru_int, oEq_int, oEq_str, Bool.false_bne, Bool.true_bne, if_true, if_false, Bool.false_eq_true, reduceIte, Bool.not_true, Bool.not_false, List.cons.injEq, true_and, and_true, List.length_cons, List.length_nil, Option.some.injEq, exists_eq_left', wipeE, List.map_cons, List.map_nil, List.mapIdx_cons, List.mapIdx_nil, oIsi_plain pu]
                  exact hC2
                · simp only [List.nil_append]
                  have e2 : vs.map (fun u => T.bl ((kind u).sub .bool)) = (vs.map fun u => (kind u).sub .bool).map .bl := by rw [List.map_map]; rfl
                  rw [e2]
                  refine any_bls _ ?_
                  match vs, hl2, c1, hv with
                  | [x, y], _, c1, hv =>
                    have px := int_kind (tame_plain (hv x (by simp)))
                    have py := int_kind (tame_plain (hv y (by simp)))
                    simp only [List.map_cons, List.map_nil, List.any_cons, List.any_nil, id, Bool.or_false, Bool.or_eq_false_iff, Bool.not_eq_false'] at c1
                    rw [c1.1, Bool.true_and] at px
                    rw [c1.2, Bool.true_and] at py
                    simp only [List.map_cons, List.map_nil, List.any_cons, List.any_nil, id, Bool.or_false]
                    cases x with
                    | int n =>
                      cases y with
                      | int d =>
                        have ex : (kind (T.int n)).sub .bool = false := rfl
                        have ey : (kind (T.int d)).sub .bool = false := rfl
                        simp only [ex, ey, Bool.or_false, wS, sem, Sm.val, Sm.tst, Sm.arg, Sm.itr, boolOf, truthOf, gT, gTs, zip_tup, seq_lst, seq_tup, lst_lst, Co.sem, oInt, Bo.sem, oAdd, oSub, oMul, oDiv, oMod, Bf.sem, oLen, oAbs, oInt1, oGcd, oNeg, oIx, Mt.sem, List.getElem?_cons_zero, List.getElem?_cons_succ, List.set_cons_zero, List.set_cons_succ, setAll, frz_lst, frz_dct, tru_bl, tru_int, oEq_int, oEq_str, Bool.false_bne, Bool.true_bne, if_true, if_false, Bool.false_eq_true, reduceIte, Bool.not_true, Bool.not_false, List.cons.injEq, true_and, and_true, List.length_cons, List.length_nil, Option.some.injEq, exists_eq_left']
                        refine ⟨.int d, rfl, ?_⟩
                        by_cases hd1 : d < 1
                        · simp only [hd1, decide_true, wS, sem, Sm.val, Sm.tst, Sm.arg, Sm.itr, boolOf, truthOf, gT, gTs, zip_tup, seq_lst, seq_tup, lst_lst, Co.sem, oInt, Bo.sem, oAdd, oSub, oMul, oDiv, oMod, Bf.sem, oLen, oAbs, oInt1, oGcd, oNeg, oIx, Mt.sem, List.getElem?_cons_zero, List.getElem?_cons_succ, List.set_cons_zero, List.set_cons_succ, setAll, frz_lst, frz_dct, tru_bl, tru_int, oEq_int, oEq_str, Bool.false_bne, Bool.true_bne, if_true, if_false, Bool.false_eq_true, reduceIte, Bool.not_true, Bool.not_false, List.cons.injEq, true_and, and_true, List.length_cons, List.length_nil, Option.some.injEq, exists_eq_left']
                          refine bad ?_
                          show (decide (0 < d) && _) = false
                          rw [decide_eq_false (by omega), Bool.false_and]
                        · simp only [hd1, decide_false, wS, sem, Sm.val, Sm.tst, Sm.arg, Sm.itr, boolOf, truthOf, gT, gTs, zip_tup, seq_lst, seq_tup, lst_lst, Co.sem, oInt, Bo.sem, oAdd, oSub, oMul, oDiv, oMod, Bf.sem, oLen, oAbs, oInt1, oGcd, oNeg, oIx, Mt.sem, List.getElem?_cons_zero, List.getElem?_cons_succ, List.set_cons_zero, List.set_cons_succ, setAll, frz_lst, frz_dct, tru_bl, tru_int, oEq_int, oEq_str, Bool.false_bne, Bool.true_bne, if_true, if_false, Bool.false_eq_true, reduceIte, Bool.not_true, Bool.not_false, List.cons.injEq, true_and, and_true, List.length_cons, List.length_nil, Option.some.injEq, exists_eq_left', h0]
                          refine ⟨.int n, rfl, .int d, rfl, n, d, rfl, ?_⟩
                          have ef : isFr (.tup [.int n, .int d]) = decide (Int.gcd n d = 1) := by
                            show (decide (0 < d) && decide (Int.gcd n d = 1)) = _
                            rw [decide_eq_true (show 0 < d by omega), Bool.true_and]
                          by_cases hg : Int.gcd n d = 1
                          · have hg' : ((Int.gcd n d : Nat) : Int) = 1 := by omega
                            simp only [hg', decide_true, wS, sem, Sm.val, Sm.tst, Sm.arg, Sm.itr, boolOf, truthOf, gT, gTs, zip_tup, seq_lst, seq_tup, lst_lst, Co.sem, oInt, Bo.sem, oAdd, oSub, oMul, oDiv, oMod, Bf.sem, oLen, oAbs, oInt1, oGcd, oNeg, oIx, Mt.sem, List.getElem?_cons_zero, List.getElem?_cons_succ, List.set_cons_zero, List.set_cons_succ, setAll, frz_lst, frz_dct, tru_bl, tru_int, oEq_int, oEq_str, Bool.false_bne, Bool.true_bne, if_true, if_false, Bool.false_eq_true, reduceIte, Bool.not_true, Bool.not_false, List.cons.injEq, true_and, and_true, List.length_cons, List.length_nil, Option.some.injEq, exists_eq_left']
                            rw [decide_eq_true hg] at ef
                            exact hC _ _ ⟨rfl, ⟨_, _, rfl⟩, take_all ht hall ef⟩
                          · have hg' : ¬ ((Int.gcd n d : Nat) : Int) = 1 := by omega
                            simp only [hg', decide_false, wS, sem, Sm.val, Sm.tst, Sm.arg, Sm.itr, boolOf, truthOf, gT, gTs, zip_tup, seq_lst, seq_tup, lst_lst, Co.sem, oInt, Bo.sem, oAdd, oSub, oMul, oDiv, oMod, Bf.sem, oLen, oAbs, oInt1, oGcd, oNeg, oIx, Mt.sem, List.getElem?_cons_zero, List.getElem?_cons_succ, List.set_cons_zero, List.set_cons_succ, setAll, frz_lst, frz_dct, tru_bl, tru_int, oEq_int, oEq_str, Bool.false_bne, Bool.true_bne, if_true, if_false, Bool.false_eq_true, reduceIte, Bool.not_true, Bool.not_false, List.cons.injEq, true_and, and_true, List.length_cons, List.length_nil, Option.some.injEq, exists_eq_left']
                            rw [decide_eq_false hg] at ef
                            exact bad ef
                      | _ =>
                        simp only [TP.isInt, Bool.not_eq_false'] at py
                        rw [py, Bool.or_true]
                        simp only [wS, sem, Sm.val, Sm.tst, Sm.arg, Sm.itr, boolOf, truthOf, gT, gTs, zip_tup, seq_lst, seq_tup, lst_lst, Co.sem, oInt, Bo.sem, oAdd, oSub, oMul, oDiv, oMod, Bf.sem, oLen, oAbs, oInt1, oGcd, oNeg, oIx, Mt.sem, List.getElem?_cons_zero, List.getElem?_cons_succ, List.set_cons_zero, List.set_cons_succ, setAll, frz_lst, frz_dct, tru_bl, tru_int, oEq_int, oEq_str, Bool.false_bne, Bool.true_bne, if_true, if_false, Bool.false_eq_true, reduceIte, Bool.not_true, Bool.not_false, List.cons.injEq, true_and, and_true, List.length_cons, List.length_nil, Option.some.injEq, exists_eq_left']
                        exact bad rfl
                    | _ =>
                      simp only [TP.isInt, Bool.not_eq_false'] at px
                      rw [px, Bool.true_or]
                      simp only [wS, sem, Sm.val, Sm.tst, Sm.arg, Sm.itr, boolOf, truthOf, gT, gTs, zip_tup, seq_lst, seq_tup, lst_lst, Co.sem, oInt, Bo.sem, oAdd, oSub, oMul, oDiv, oMod, Bf.sem, oLen, oAbs, oInt1, oGcd, oNeg, oIx, Mt.sem, List.getElem?_cons_zero, List.getElem?_cons_succ, List.set_cons_zero, List.set_cons_succ, setAll, frz_lst, frz_dct, tru_bl, tru_int, oEq_int, oEq_str, Bool.false_bne, Bool.true_bne, if_true, if_false, Bool.false_eq_true, reduceIte, Bool.not_true, Bool.not_false, List.cons.injEq, true_and, and_true, List.length_cons, List.length_nil, Option.some.injEq, exists_eq_left']
                      refine bad ?_
                      exact isFr_two (by unfold two; split <;> first | rfl | (rename_i e; cases e))
                  | [], h, _, _ => simp at h
                  | [_], h, _, _ => simp at h
                  | _ :: _ :: _ :: _, h, _, _ => simp at h; omega
          · simp only [hl2, decide_false, wS, sem, Sm.val, Sm.tst, Sm.arg, Sm.itr, boolOf, truthOf, gT, gTs, zip_tup, seq_lst, seq_tup, lst_lst, Co.sem, oInt, Bo.sem, oAdd, oSub, oMul, oDiv, oMod, Bf.sem, oLen, oAbs, oInt1, oGcd, oNeg, oIx, Mt.sem, List.getElem?_cons_zero, List.getElem?_cons_succ, List.set_cons_zero, List.set_cons_succ, setAll, frz_lst, frz_dct, tru_bl, tru_int, oEq_int, oEq_str, Bool.false_bne, Bool.true_bne, if_true, if_false, Bool.false_eq_true, reduceIte, Bool.not_true, Bool.not_false, List.cons.injEq, true_and, and_true, List.length_cons, List.length_nil, Option.some.injEq, exists_eq_left']
            refine bad (isFr_two ?_)
            unfold two
            split
            · rename_i e; cases e; simp at hl2
            · rfl
        | _ => exact bad rfl
      · rintro e s' ⟨rfl, ⟨a, b, rfl⟩, hall⟩
        simp only [b_l_is_row_0, wS, sem, Sm.val, Sm.tst, Sm.arg, Sm.itr, boolOf, truthOf, gT, gTs, zip_tup, seq_lst, seq_tup, lst_lst, Co.sem, oInt, Bo.sem, oAdd, oSub, oMul, oDiv, oMod, Bf.sem, oLen, oAbs, oInt1, oGcd, oNeg, oIx, Mt.sem, List.getElem?_cons_zero, List.getElem?_cons_succ, List.set_cons_zero, List.set_cons_succ, setAll, frz_lst, frz_dct, tru_bl, tru_int, oEq_int, oEq_str, Bool.false_bne, Bool.true_bne, if_true, if_false, Bool.false_eq_true, reduceIte, Bool.not_true, Bool.not_false, List.cons.injEq, true_and, and_true, List.length_cons, List.length_nil, Option.some.injEq, exists_eq_left']
        rw [List.take_length] at hall
        rw [hall] at k
        exact k
    · simp only [isRow, hl, decide_false, Bool.false_and, wS, sem, Sm.val, Sm.tst, Sm.arg, Sm.itr, boolOf, truthOf, gT, gTs, zip_tup, seq_lst, seq_tup, lst_lst, Co.sem, oInt, Bo.sem, oAdd, oSub, oMul, oDiv, oMod, Bf.sem, oLen, oAbs, oInt1, oGcd, oNeg, oIx, Mt.sem, List.getElem?_cons_zero, List.getElem?_cons_succ, List.set_cons_zero, List.set_cons_succ, setAll, frz_lst, frz_dct, tru_bl, tru_int, oEq_int, oEq_str, Bool.false_bne, Bool.true_bne, if_true, if_false, Bool.false_eq_true, reduceIte, Bool.not_true, Bool.not_false, List.cons.injEq, true_and, and_true, List.length_cons, List.length_nil, Option.some.injEq, exists_eq_left'] at k ⊢
      exact k
  | _ => exact k
/-! ### times, steps -/

def n_l_draw_time : List Str := ["_law_source"]
abbrev b_l_draw_time : Stm := (.cons (.ret (.call 0 (.cons (.call 1 (.cons (.var 0) (.cons (.int 7) .nil))) (.cons (.bin .add (.int 1) (.call 1 (.cons (.var 0) (.cons (.int 3) .nil)))) .nil)))) .nil)

def n_l_draw_steps : List Str := ["_law_source", "_law_many", "_law_most", "_law_lap"]
abbrev b_l_draw_steps : Stm := (.cons (.ret (.blt .tuple (.cons (.frz (.lc [("_law_lap", 3)] (.nm 3) (.iR1 (.bin .add (.int 1) (.call 0 (.cons (.var 0) (.cons (.var 2) .nil))))) (.tup (.cons (.call 0 (.cons (.var 0) (.cons (.var 1) .nil))) (.cons (.call 1 (.cons (.var 0) .nil)) .nil))))) .nil))) .nil)
/-- a time from 0 to 6 -/
def TimeP (q : Rat) : Prop := 0 ≤ q ∧ Small 6 q
def spDrawTime : TSp := fun ts S R X => ∃ s c, ts = [.ref s] ∧ IsSrc S s c ∧ ∀ q S', TimeP q → IsSrc S' s c → Kept S S' s c → R (rT q) S'
theorem w_drawTime (G : Gx) (N : List Str) (hN : N.length = 1) {x0 : Str} (h0 : G.fns[0]? = some (x0, spLF)) {x1 : Str} (h1 : G.fns[1]? = some (x1, spPick)) (ts : List T) (S : Sto) (R : RP) (X : XP) (h : spDrawTime ts S R X) : ts.length = 1 ∧ wS b_l_draw_time G (startE N ts) S { nx := fun _ S' => R .non S', rt := R, xx := fun _ => X } := by
  obtain ⟨s, c, rfl, hs, k⟩ := h
  refine ⟨rfl, ?_⟩
  unfold startE
  rw [hN]
  show wS b_l_draw_time G [some (.ref s)] S _
  simp only [b_l_draw_time, wS, sem, Sm.val, Sm.tst, Sm.arg, Sm.itr, boolOf, truthOf, gT, gTs, zip_tup, seq_lst, seq_tup, lst_lst, Co.sem, oInt, Bo.sem, oAdd, oSub, oMul, oDiv, oMod, Bf.sem, oLen, oAbs, oInt1, oGcd, oNeg, oIx, Mt.sem, List.getElem?_cons_zero, List.getElem?_cons_succ, List.set_cons_zero, List.set_cons_succ, setAll, frz_lst, frz_dct, tru_bl, tru_int, oEq_int, oEq_str, Bool.false_bne, Bool.true_bne, if_true, if_false, Bool.false_eq_true, reduceIte, Bool.not_true, Bool.not_false, List.cons.injEq, true_and, and_true, List.length_cons, List.length_nil, Option.some.injEq, exists_eq_left', h0, h1]
  refine pick_of hs (by omega) (by omega) fun i S1 i1 i2 hs1 k1 => pick_of hs1 (by omega) (by omega) fun j S2 j1 j2 hs2 k2 => ?_
  refine ⟨i, 1 + j, rfl, by omega, bt_small (k := 3) (by omega) (by omega), ?_⟩
  obtain ⟨b1, b2⟩ := div_le (n := i) (d := 1 + j) (a := 6) (b := 3) (by omega) (by omega) (by omega)
  exact k _ _ ⟨Rat.divInt_nonneg i1 (by omega), b1, b2⟩ hs2 (k1.tr k2)
abbrev St := Int × Rat
def stT (p : St) : T := .tup [.int p.1, rT p.2]
def stepsT (ps : List St) : T := .tup (ps.map stT)
def StepP (m : Int) (p : St) : Prop := 0 ≤ p.1 ∧ p.1 < m ∧ TimeP p.2
def spDrawSteps : TSp := fun ts S R X => ∃ s c, ∃ m w : Int, ts = [.ref s, .int m, .int w] ∧ 1 ≤ m ∧ m ≤ 20 ∧ 1 ≤ w ∧ w ≤ 4 ∧ IsSrc S s c ∧ ∀ (ps : List St) S', 1 ≤ ps.length → (ps.length : Int) ≤ w → (∀ p ∈ ps, StepP m p) → IsSrc S' s c → Kept S S' s c → R (stepsT ps) S'
/-- a comprehension that takes from the source -/
theorem wLc_src {α : Type} {own : List Nat} {g : Tg} {el : WE1} {gd : Sto → Prop} {env : TP.Env} {R : List T → Sto → Prop} (f : α → T) (P : α → Prop) {s c : Addr} {S0 : Sto} (hg : ∀ S, gd S) {ts : List T} (hl : ts.length < sizeLine) :
    (∀ t S (C : RP), t ∈ ts → IsSrc S s c → Kept S0 S s c → (∀ q S2, P q → IsSrc S2 s c → Kept S0 S2 s c → C (f q) S2) → gT g t (wipeE env own) S fun env' => el env' S C fun _ _ => False) → IsSrc S0 s c → (∀ (qs : List α) S, qs.length = ts.length → (∀ q ∈ qs, P q) → IsSrc S s c → Kept S0 S s c → R (qs.map f) S) → wLc own g (fun _ S R _ => R true S) el gd env ts [] S0 R := by
  intro step hs fin
  refine wLc_by (fun acc S => IsSrc S s c ∧ Kept S0 S s c ∧ acc.length ≤ ts.length ∧ ∃ qs : List α, acc = qs.map f ∧ ∀ q ∈ qs, P q) (fun _ S _ => hg S) (fun acc S h => Nat.lt_of_le_of_lt h.2.2.1 hl) ?_ ?_ ⟨hs, fun _ _ _ => rfl, by simp, [], rfl, by simp⟩
  · rintro t acc S C ht ⟨hs1, k1, l1, qs, rfl, hq⟩ hlt hC
    refine step t S C ht hs1 k1 fun q S2 pq hs2 k2 => hC _ _ ⟨hs2, k2, by simp at hlt ⊢; omega, qs ++ [q], by simp, fun x hx => ?_⟩
    rcases List.mem_append.mp hx with hx | hx
    · exact hq x hx
    · rw [List.mem_singleton.mp hx]; exact pq
  · rintro acc S ⟨hs1, k1, l1, qs, rfl, hq⟩ hlen
    exact fin qs S (by simpa using hlen) hq hs1 k1
theorem w_drawSteps (G : Gx) (N : List Str) (hN : N.length = 4) {x1 : Str} (h1 : G.fns[1]? = some (x1, spDrawTime)) {x0 : Str} (h0 : G.fns[0]? = some (x0, spPick)) (ts : List T) (S : Sto) (R : RP) (X : XP) (h : spDrawSteps ts S R X) : ts.length = 3 ∧ wS b_l_draw_steps G (startE N ts) S { nx := fun _ S' => R .non S', rt := R, xx := fun _ => X } := by
  obtain ⟨s, c, m, w, rfl, m1, m2, w1, w2, hs, k⟩ := h
  refine ⟨rfl, ?_⟩
  unfold startE
  rw [hN]
  show wS b_l_draw_steps G [some (.ref s), some (.int m), some (.int w), none] S _
  simp only [b_l_draw_steps, wS, sem, Sm.val, Sm.tst, Sm.arg, Sm.itr, boolOf, truthOf, gT, gTs, zip_tup, seq_lst, seq_tup, lst_lst, Co.sem, oInt, Bo.sem, oAdd, oSub, oMul, oDiv, oMod, Bf.sem, oLen, oAbs, oInt1, oGcd, oNeg, oIx, Mt.sem, List.getElem?_cons_zero, List.getElem?_cons_succ, List.set_cons_zero, List.set_cons_succ, setAll, frz_lst, frz_dct, tru_bl, tru_int, oEq_int, oEq_str, Bool.false_bne, Bool.true_bne, if_true, if_false, Bool.false_eq_true, reduceIte, Bool.not_true, Bool.not_false, List.cons.injEq, true_and, and_true, List.length_cons, List.length_nil, Option.some.injEq, exists_eq_left', h0, h1]
  refine pick_of hs w1 (by omega) fun i S1 i1 i2 hs1 k1 => ?_
  simp only
  refine ⟨by omega, ?_⟩
  refine wLc_src stT (StepP m) (fun _ => trivial) ?_ ?_ hs1 ?_
  · simp only [List.length_map, List.length_range]
    exact Nat.lt_of_le_of_lt (show (1 + i).toNat ≤ 100 by omega) (by decide)
  · intro t S2 C ht hs2 k2 hC
    simp only [wS, sem, Sm.val, Sm.tst, Sm.arg, Sm.itr, boolOf, truthOf, gT, gTs, zip_tup, seq_lst, seq_tup, lst_lst, Co.sem, oInt, Bo.sem, oAdd, oSub, oMul, oDiv, oMod, Bf.sem, oLen, oAbs, oInt1, oGcd, oNeg, oIx, Mt.sem, List.getElem?_cons_zero, List.getElem?_cons_succ, List.set_cons_zero, List.set_cons_succ, setAll, frz_lst, frz_dct, tru_bl, tru_int, oEq_int, oEq_str, Bool.false_bne, Bool.true_bne, if_true, if_false, Bool.false_eq_true, reduceIte, Bool.not_true, Bool.not_false, List.cons.injEq, true_and, and_true, List.length_cons, List.length_nil, Option.some.injEq, exists_eq_left', wipeE, List.map_cons, List.map_nil]
    refine pick_of hs2 m1 (by omega) fun n S3 n1 n2 hs3 k3 => ?_
    refine ⟨s, c, rfl, hs3, fun q S4 hq hs4 k4 => ?_⟩
    refine ⟨by decide, ?_⟩
    exact hC (n, q) S4 ⟨n1, n2, hq⟩ hs4 (k2.tr (k3.tr k4))
  · intro ps S2 hl hp hs2 k2 _
    simp only [oTup, wS, sem, Sm.val, Sm.tst, Sm.arg, Sm.itr, boolOf, truthOf, gT, gTs, zip_tup, seq_lst, seq_tup, lst_lst, Co.sem, oInt, Bo.sem, oAdd, oSub, oMul, oDiv, oMod, Bf.sem, oLen, oAbs, oInt1, oGcd, oNeg, oIx, Mt.sem, List.getElem?_cons_zero, List.getElem?_cons_succ, List.set_cons_zero, List.set_cons_succ, setAll, frz_lst, frz_dct, tru_bl, tru_int, oEq_int, oEq_str, Bool.false_bne, Bool.true_bne, if_true, if_false, Bool.false_eq_true, reduceIte, Bool.not_true, Bool.not_false, List.cons.injEq, true_and, and_true, List.length_cons, List.length_nil, Option.some.injEq, exists_eq_left']
    simp only [List.length_map, List.length_range] at hl
    exact k ps S2 (by omega) (by omega) hp hs2 (k1.tr k2)
end TG

set_option maxHeartbeats 4000000
namespace TG
open PySem PySem.Spec PyProof.Rows L2 TP

/-! ### plans -/
def b_is_step_0 : Stm := .cons (.ret (.and (.call 2 (.cons (.var 2) .nil)) (.and (.chain .le .lt (.int 0) (.var 2) (.var 1)) (.and (.call 1 (.cons (.var 3) .nil)) (.one (.not (.call 0 (.cons (.var 3) (.cons (.con 0) .nil))))))))) .nil
def b_is_step_1 : Stm := .cons (.asg (.tup (.cons (.nm 2) (.cons (.nm 3) .nil))) (.var 0)) b_is_step_0
def b_is_step_2 : Stm := .cons (.ifs (.or (.not (.isi (.var 0) .tuple)) (.one (.cmp .ne (.blt .len (.cons (.var 0) .nil)) (.int 2)))) (.cons (.ret (.bl false)) .nil) .nil) b_is_step_1
def n_is_step : List Str := ["value", "many", "turn", "time"]
abbrev b_is_step : Stm := b_is_step_2
def b_is_lap_0 : Stm := .cons (.ret (.and (.call 0 (.cons (.var 4) .nil)) (.one (.cmp .ge (.var 4) (.int 1))))) .nil
def b_is_lap_1 : Stm := .cons (.ifs (.cmp .isn (.var 4) .non) (.cons (.ret (.and (.var 2) (.one (.blt .any (.cons (.frz (.lc [("_", 6), ("time", 7)] (.tup (.cons (.nm 6) (.cons (.nm 7) .nil))) (.iA (.var 3)) (.cmp .ne (.var 7) (.con 0)))) .nil))))) .nil) .nil) b_is_lap_0
def b_is_lap_2 : Stm := .cons (.ifs (.or (.not (.isi (.var 3) .tuple)) (.or (.cmp .eq (.blt .len (.cons (.var 3) .nil)) (.int 0)) (.one (.not (.blt .all (.cons (.frz (.lc [("step", 5)] (.nm 5) (.iA (.var 3)) (.call 1 (.cons (.var 5) (.cons (.var 1) .nil))))) .nil)))))) (.cons (.ret (.bl false)) .nil) .nil) b_is_lap_1
def b_is_lap_3 : Stm := .cons (.asg (.tup (.cons (.nm 3) (.cons (.nm 4) .nil))) (.var 0)) b_is_lap_2
def b_is_lap_4 : Stm := .cons (.ifs (.or (.not (.isi (.var 0) .tuple)) (.one (.cmp .ne (.blt .len (.cons (.var 0) .nil)) (.int 2)))) (.cons (.ret (.bl false)) .nil) .nil) b_is_lap_3
def n_is_lap : List Str := ["value", "many", "is_last", "steps", "n", "step", "_", "time"]
abbrev b_is_lap : Stm := b_is_lap_4
def b_is_plan_0 : Stm := .cons (.ret (.blt .all (.cons (.frz (.lc [("k", 2), ("lap", 3)] (.tup (.cons (.nm 2) (.cons (.nm 3) .nil))) (.iE (.var 0)) (.call 0 (.cons (.var 3) (.cons (.var 1) (.cons (.cmp .eq (.bin .add (.var 2) (.int 1)) (.blt .len (.cons (.var 0) .nil))) .nil)))))) .nil))) .nil
def b_is_plan_1 : Stm := .cons (.ifs (.not (.isi (.var 0) .tuple)) (.cons (.ret (.bl false)) .nil) .nil) b_is_plan_0
def n_is_plan : List Str := ["value", "many", "k", "lap"]
abbrev b_is_plan : Stm := b_is_plan_1
def b_l_is_plan_0 : Stm := .cons (.ret (.bl true)) .nil
def b_l_is_plan_1 : Stm := .cons (.ifs (.and (.cmp .nisn (.ix (.var 3) (.int 1)) .non) (.one (.or (.isi (.ix (.var 3) (.int 1)) .bool) (.or (.not (.isi (.ix (.var 3) (.int 1)) .int)) (.one (.cmp .lt (.ix (.var 3) (.int 1)) (.int 1))))))) (.cons (.ret (.bl false)) .nil) .nil) .nil
def b_l_is_plan_2 : Stm := .cons (.ifs (.and (.cmp .isn (.ix (.var 3) (.int 1)) .non) (.one (.or (.cmp .lt (.bin .add (.var 2) (.int 1)) (.blt .len (.cons (.var 0) .nil))) (.one (.cmp .eq (.call 0 (.cons (.frz (.lc [("_law_turn", 5), ("_law_x", 6)] (.tup (.cons (.nm 5) (.cons (.nm 6) .nil))) (.iA (.ix (.var 3) (.int 0))) (.var 6))) .nil)) (.tup (.cons (.int 0) (.cons (.int 1) .nil)))))))) (.cons (.ret (.bl false)) .nil) .nil) b_l_is_plan_1
def b_l_is_plan_3 : Stm := .cons (.ifs (.or (.not (.chain .le .lt (.int 0) (.ix (.var 4) (.int 0)) (.var 1))) (.or (.not (.call 1 (.cons (.tup (.cons (.ix (.var 4) (.int 1)) .nil)) (.cons (.int 1) .nil)))) (.one (.cmp .lt (.ix (.ix (.var 4) (.int 1)) (.int 0)) (.int 0))))) (.cons (.ret (.bl false)) .nil) .nil) .nil
def b_l_is_plan_4 : Stm := .cons (.ifs (.not (.isi (.ix (.var 4) (.int 0)) .int)) (.cons (.ret (.bl false)) .nil) .nil) b_l_is_plan_3
def b_l_is_plan_5 : Stm := .cons (.ifs (.or (.not (.isi (.var 4) .tuple)) (.or (.cmp .ne (.blt .len (.cons (.var 4) .nil)) (.int 2)) (.one (.isi (.ix (.var 4) (.int 0)) .bool)))) (.cons (.ret (.bl false)) .nil) .nil) b_l_is_plan_4
def b_l_is_plan_6 : Stm := .cons (.for_ (.nm 4) (.iA (.ix (.var 3) (.int 0))) b_l_is_plan_5) b_l_is_plan_2
def b_l_is_plan_7 : Stm := .cons (.ifs (.or (.not (.isi (.var 3) .tuple)) (.or (.cmp .ne (.blt .len (.cons (.var 3) .nil)) (.int 2)) (.or (.not (.isi (.ix (.var 3) (.int 0)) .tuple)) (.one (.cmp .eq (.ix (.var 3) (.int 0)) (.tup .nil)))))) (.cons (.ret (.bl false)) .nil) .nil) b_l_is_plan_6
def b_l_is_plan_8 : Stm := .cons (.for_ (.tup (.cons (.nm 2) (.cons (.nm 3) .nil))) (.iE (.var 0)) b_l_is_plan_7) b_l_is_plan_0
def b_l_is_plan_9 : Stm := .cons (.ifs (.not (.isi (.var 0) .tuple)) (.cons (.ret (.bl false)) .nil) .nil) b_l_is_plan_8
def n_l_is_plan : List Str := ["_law_plan", "_law_many", "_law_k", "_law_lap", "_law_step", "_law_turn", "_law_x"]
abbrev b_l_is_plan : Stm := b_l_is_plan_9
def b_l_draw_plan_0 : Stm := .cons (.ret (.var 2)) .nil
def b_l_draw_plan_1 : Stm := .cons (.asg (.nm 2) (.bin .add (.var 2) (.tup (.cons (.tup (.cons (.var 4) (.cons .non .nil))) .nil)))) .nil
def b_l_draw_plan_2 : Stm := .cons (.ifs (.and (.cmp .eq (.call 1 (.cons (.var 0) (.cons (.int 3) .nil))) (.int 0)) (.one (.cmp .ne (.call 0 (.cons (.frz (.lc [("_law_k", 5), ("_law_x", 6)] (.tup (.cons (.nm 5) (.cons (.nm 6) .nil))) (.iA (.var 4)) (.var 6))) .nil)) (.tup (.cons (.int 0) (.cons (.int 1) .nil)))))) b_l_draw_plan_1 .nil) b_l_draw_plan_0
def b_l_draw_plan_3 : Stm := .cons (.asg (.nm 4) (.call 2 (.cons (.var 0) (.cons (.var 1) (.cons (.int 3) .nil))))) b_l_draw_plan_2
def b_l_draw_plan_4 : Stm := .cons (.asg (.nm 2) (.bin .add (.var 2) (.tup (.cons (.tup (.cons (.call 2 (.cons (.var 0) (.cons (.var 1) (.cons (.int 4) .nil)))) (.cons (.ix (.frz (.lst (.cons (.int 1) (.cons (.int 1) (.cons (.int 2) (.cons (.int 3) (.cons (.int 7) .nil))))))) (.call 1 (.cons (.var 0) (.cons (.int 5) .nil)))) .nil))) .nil)))) .nil
def b_l_draw_plan_5 : Stm := .cons (.for_ (.nm 3) (.iR1 (.call 1 (.cons (.var 0) (.cons (.int 4) .nil)))) b_l_draw_plan_4) b_l_draw_plan_3
def b_l_draw_plan_6 : Stm := .cons (.asg (.nm 2) (.tup .nil)) b_l_draw_plan_5
def n_l_draw_plan : List Str := ["_law_source", "_law_many", "_law_plan", "_law_lap", "_law_steps", "_law_k", "_law_x"]
abbrev b_l_draw_plan : Stm := b_l_draw_plan_6
def notNeg : T → Bool
  | .tup [.int n, .int _] => decide (0 ≤ n)
  | _ => false
def isStep (m : Int) : T → Bool
  | .tup [.int k, x] => decide (0 ≤ k) && decide (k < m) && (isFr x && notNeg x)
  | _ => false
/-- a step's time is none of nought -/
def tmNz : T → Bool
  | .tup [_, .tup [.int n, .int _]] => decide (n ≠ 0)
  | _ => false
def isN (last : Bool) (ps : List T) : T → Bool
  | .non => last && ps.any tmNz
  | .int n => decide (1 ≤ n)
  | _ => false
def isLap (m : Int) (last : Bool) : T → Bool
  | .tup [.tup ps, n] => !ps.isEmpty && ps.all (isStep m) && isN last ps n
  | _ => false
def isPlan (m : Int) : T → Bool
  | .tup us => (us.mapIdx fun i t => isLap m (decide (i + 1 = us.length)) t).all id
  | _ => false
theorem all_idx {f : Nat → T → Bool} {us : List T} : (us.mapIdx f).all id = true ↔ ∀ i t, us[i]? = some t → f i t = true := by
  rw [List.all_eq_true]
  constructor
  · intro h i t ht
    exact h _ (List.mem_of_getElem? (i := i) (by rw [List.getElem?_mapIdx, ht]; rfl))
  · intro h x hx
    obtain ⟨i, hi⟩ := List.getElem?_of_mem hx
    rw [List.getElem?_mapIdx] at hi
    obtain ⟨t, ht, rfl⟩ := Option.map_eq_some_iff.mp hi
    exact h i t ht
theorem notNeg_rT (q : Rat) : notNeg (rT q) = decide (0 ≤ q) := by
  show decide (0 ≤ q.num) = _
  rw [Bool.eq_iff_iff, decide_eq_true_eq, decide_eq_true_eq, Rat.num_nonneg]
theorem isStep_st {m : Int} {p : St} : isStep m (stT p) = (decide (0 ≤ p.1) && decide (p.1 < m) && decide (0 ≤ p.2)) := by
  show (_ && _ && (isFr (rT p.2) && notNeg (rT p.2))) = _
  rw [isFr_rT, notNeg_rT, Bool.true_and]
theorem tmNz_st {p : St} : tmNz (stT p) = decide (p.2 ≠ 0) := by
  show decide (p.2.num ≠ 0) = _
  rw [Bool.eq_iff_iff, decide_eq_true_eq, decide_eq_true_eq, ne_eq, Rat.num_eq_zero]
theorem fr_tame {b : Nat} {x : T} (h : isFr x = true) (hd : tame b x = true) : ∃ q : Rat, x = rT q ∧ Sz b q := by
  match x, h with
  | .tup [.int n, .int d], h =>
    simp only [isFr, Bool.and_eq_true, decide_eq_true_eq] at h
    have e := rT_nf (n := n) (d := d) h
    obtain ⟨e1, e2⟩ := rT_num e
    have t1 : tame b (.int n) = true := (tame_tup hd).2 _ (by simp)
    have t2 : tame b (.int d) = true := (tame_tup hd).2 _ (by simp)
    simp only [tame, decide_eq_true_eq] at t1 t2
    refine ⟨_, e, ?_, ?_⟩
    · rw [← e1]; exact t1
    · show (Rat.divInt n d).den < 2 ^ b
      rw [e2] at t2
      simpa using t2
theorem step_tame {b : Nat} {m : Int} {x : T} (h : isStep m x = true) (hd : tame b x = true) : ∃ p : St, x = stT p ∧ 0 ≤ p.1 ∧ p.1 < m ∧ 0 ≤ p.2 ∧ Sz b p.2 := by
  unfold isStep at h
  split at h
  · rename_i k y
    simp only [Bool.and_eq_true, decide_eq_true_eq] at h
    obtain ⟨⟨a1, a2⟩, a3, a4⟩ := h
    obtain ⟨q, rfl, sq⟩ := fr_tame a3 ((tame_tup hd).2 y (by simp))
    rw [notNeg_rT, decide_eq_true_eq] at a4
    exact ⟨(k, q), rfl, a1, a2, a4, sq⟩
  · cases h
theorem steps_tame {b : Nat} {m : Int} : ∀ {xs : List T}, xs.all (isStep m) = true → (∀ x ∈ xs, tame b x = true) → ∃ ps : List St, xs = ps.map stT ∧ ∀ p ∈ ps, 0 ≤ p.2 ∧ Sz b p.2
  | [], _, _ => ⟨[], rfl, by simp⟩
  | x :: xs, h, hd => by
    simp only [List.all_cons, Bool.and_eq_true] at h
    obtain ⟨p, rfl, _, _, a, c⟩ := step_tame h.1 (hd x (by simp))
    obtain ⟨ps, rfl, hp⟩ := steps_tame h.2 fun y hy => hd y (by simp [hy])
    refine ⟨p :: ps, rfl, fun q hq => ?_⟩
    rcases List.mem_cons.mp hq with rfl | hq
    · exact ⟨a, c⟩
    · exact hp q hq
def spStep : TSp := fun ts S R X => ∃ t m, ts = [t, .int m] ∧ tame 900 t = true ∧ R (.bl (isStep m t)) S
theorem w_step (G : Gx) (N : List Str) (hN : N.length = 4) {x0 : Str} (h0 : G.fns[0]? = some (x0, spLess)) {x1 : Str} (h1 : G.fns[1]? = some (x1, spIsFr)) {x2 : Str} (h2 : G.fns[2]? = some (x2, spNum)) {z0 : Str} (hc0 : G.cons[0]? = some (z0, rT 0)) (ts : List T) (S : Sto) (R : RP) (X : XP) (h : spStep ts S R X) : ts.length = 2 ∧ wS b_is_step G (startE N ts) S { nx := fun _ S' => R .non S', rt := R, xx := fun _ => X } := by
  obtain ⟨t, m, rfl, hd, k⟩ := h
  refine ⟨rfl, ?_⟩
  unfold startE
  rw [hN]
  show wS b_is_step G [some t, some (.int m), none, none] S _
  have hp := tame_plain hd
  simp only [b_is_step, b_is_step_2, wS, sem, Sm.val, Sm.tst, Sm.arg, Sm.itr, boolOf, truthOf, gT, gTs, zip_tup, seq_lst, seq_tup, lst_lst, Co.sem, oInt, Bo.sem, oAdd, oSub, oMul, oDiv, oMod, Bf.sem, oLen, oAbs, oInt1, oGcd, oNeg, oIx, Mt.sem, List.getElem?_cons_zero, List.getElem?_cons_succ, List.set_cons_zero, List.set_cons_succ, setAll, frz_lst, frz_dct, tru_bl, tru_int, oEq_int, oEq_str, Bool.false_bne, Bool.true_bne, if_true, if_false, Bool.false_eq_true, reduceIte, Bool.not_true, Bool.not_false, List.cons.injEq, true_and, and_true, List.length_cons, List.length_nil, Option.some.injEq, exists_eq_left', oIsi_plain hp, tup_kind hp]
  cases t with
  | tup us =>
    simp only [isTup, wS, sem, Sm.val, Sm.tst, Sm.arg, Sm.itr, boolOf, truthOf, gT, gTs, zip_tup, seq_lst, seq_tup, lst_lst, Co.sem, oInt, Bo.sem, oAdd, oSub, oMul, oDiv, oMod, Bf.sem, oLen, oAbs, oInt1, oGcd, oNeg, oIx, Mt.sem, List.getElem?_cons_zero, List.getElem?_cons_succ, List.set_cons_zero, List.set_cons_succ, setAll, frz_lst, frz_dct, tru_bl, tru_int, oEq_int, oEq_str, Bool.false_bne, Bool.true_bne, if_true, if_false, Bool.false_eq_true, reduceIte, Bool.not_true, Bool.not_false, List.cons.injEq, true_and, and_true, List.length_cons, List.length_nil, Option.some.injEq, exists_eq_left']
    match us, hd, k with
    | [a, b], hd, k =>
      have da := (tame_tup hd).2 a (by simp)
      have db := (tame_tup hd).2 b (by simp)
      simp only [b_is_step_1, b_is_step_0, wS, sem, Sm.val, Sm.tst, Sm.arg, Sm.itr, boolOf, truthOf, gT, gTs, zip_tup, seq_lst, seq_tup, lst_lst, Co.sem, oInt, Bo.sem, oAdd, oSub, oMul, oDiv, oMod, Bf.sem, oLen, oAbs, oInt1, oGcd, oNeg, oIx, Mt.sem, List.getElem?_cons_zero, List.getElem?_cons_succ, List.set_cons_zero, List.set_cons_succ, setAll, frz_lst, frz_dct, tru_bl, tru_int, oEq_int, oEq_str, Bool.false_bne, Bool.true_bne, if_true, if_false, Bool.false_eq_true, reduceIte, Bool.not_true, Bool.not_false, List.cons.injEq, true_and, and_true, List.length_cons, List.length_nil, Option.some.injEq, exists_eq_left', h2]
      rw [if_neg (by simp)]
      refine ⟨_, rfl, tame_plain da, ?_⟩
      cases a with
      | int a =>
        simp only [TP.isInt, isStep] at k ⊢
        by_cases c1 : 0 ≤ a
        · simp only [c1, decide_true, Bool.true_and] at k ⊢
          by_cases c2 : a < m
          · simp only [c2, decide_true, Bool.true_and, h1] at k ⊢
            refine ⟨b, rfl, tame_plain db, fun us e => ?_, ?_⟩
            · subst e
              exact List.all_eq_true.mpr fun u hu => tame_plain ((tame_tup db).2 u hu)
            · by_cases c3 : isFr b = true
              · obtain ⟨q, rfl, sq⟩ := fr_tame c3 db
                simp only [c3, notNeg_rT, Bool.true_and, h0, hc0] at k ⊢
                refine ⟨q, 0, rfl, sq.up (by omega), sz_zero.up (by omega), ?_⟩
                have e : decide (0 ≤ q) = !decide (q < 0) := by
                  rw [Bool.eq_iff_iff]
                  simp only [decide_eq_true_eq, Bool.not_eq_true', decide_eq_false_iff_not, Rat.not_lt]
                rw [e] at k
                exact k
              · rw [Bool.not_eq_true] at c3
                simp only [c3, Bool.false_and] at k ⊢
                exact k
          · simp only [c2, decide_false, Bool.false_and] at k ⊢
            exact k
        · simp only [c1, decide_false, Bool.false_and] at k ⊢
          exact k
      | _ => exact k
    | [], _, k => rw [if_pos (by simp)]; exact k
    | [_], _, k => rw [if_pos (by simp)]; simp only [isStep] at k; exact k
    | _ :: _ :: _ :: _, _, k => rw [if_pos (by simp; omega)]; simp only [isStep] at k; exact k
  | _ => exact k
def spLap : TSp := fun ts S R X => ∃ t m l, ts = [t, .int m, .bl l] ∧ tame 900 t = true ∧ R (.bl (isLap m l t)) S
theorem isLap_flat {m : Int} {l : Bool} {t : T} (h : ∀ ps n, t ≠ .tup [.tup ps, n]) : isLap m l t = false := by
  unfold isLap
  split
  · exact absurd rfl (h _ _)
  · rfl
theorem w_lap (G : Gx) (N : List Str) (hN : N.length = 8) {x0 : Str} (h0 : G.fns[0]? = some (x0, spNum)) {x1 : Str} (h1 : G.fns[1]? = some (x1, spStep)) {z0 : Str} (hc0 : G.cons[0]? = some (z0, rT 0)) (ts : List T) (S : Sto) (R : RP) (X : XP) (h : spLap ts S R X) : ts.length = 3 ∧ wS b_is_lap G (startE N ts) S { nx := fun _ S' => R .non S', rt := R, xx := fun _ => X } := by
  obtain ⟨t, m, l, rfl, hd, k⟩ := h
  refine ⟨rfl, ?_⟩
  unfold startE
  rw [hN]
  show wS b_is_lap G [some t, some (.int m), some (.bl l), none, none, none, none, none] S _
  have hp := tame_plain hd
  simp only [b_is_lap, b_is_lap_4, wS, sem, Sm.val, Sm.tst, Sm.arg, Sm.itr, boolOf, truthOf, gT, gTs, zip_tup, seq_lst, seq_tup, lst_lst, Co.sem, oInt, Bo.sem, oAdd, oSub, oMul, oDiv, oMod, Bf.sem, oLen, oAbs, oInt1, oGcd, oNeg, oIx, Mt.sem, List.getElem?_cons_zero, List.getElem?_cons_succ, List.set_cons_zero, List.set_cons_succ, setAll, frz_lst, frz_dct, tru_bl, tru_int, oEq_int, oEq_str, Bool.false_bne, Bool.true_bne, if_true, if_false, Bool.false_eq_true, reduceIte, Bool.not_true, Bool.not_false, List.cons.injEq, true_and, and_true, List.length_cons, List.length_nil, Option.some.injEq, exists_eq_left', oIsi_plain hp, tup_kind hp]
  cases t with
  | tup us =>
    simp only [isTup, wS, sem, Sm.val, Sm.tst, Sm.arg, Sm.itr, boolOf, truthOf, gT, gTs, zip_tup, seq_lst, seq_tup, lst_lst, Co.sem, oInt, Bo.sem, oAdd, oSub, oMul, oDiv, oMod, Bf.sem, oLen, oAbs, oInt1, oGcd, oNeg, oIx, Mt.sem, List.getElem?_cons_zero, List.getElem?_cons_succ, List.set_cons_zero, List.set_cons_succ, setAll, frz_lst, frz_dct, tru_bl, tru_int, oEq_int, oEq_str, Bool.false_bne, Bool.true_bne, if_true, if_false, Bool.false_eq_true, reduceIte, Bool.not_true, Bool.not_false, List.cons.injEq, true_and, and_true, List.length_cons, List.length_nil, Option.some.injEq, exists_eq_left']
    match us, hd, k with
    | [a, n], hd, k =>
      have da := (tame_tup hd).2 a (by simp)
      have dn := (tame_tup hd).2 n (by simp)
      have pa := tame_plain da
      have pn := tame_plain dn
      simp only [b_is_lap_3, wS, sem, Sm.val, Sm.tst, Sm.arg, Sm.itr, boolOf, truthOf, gT, gTs, zip_tup, seq_lst, seq_tup, lst_lst, Co.sem, oInt, Bo.sem, oAdd, oSub, oMul, oDiv, oMod, Bf.sem, oLen, oAbs, oInt1, oGcd, oNeg, oIx, Mt.sem, List.getElem?_cons_zero, List.getElem?_cons_succ, List.set_cons_zero, List.set_cons_succ, setAll, frz_lst, frz_dct, tru_bl, tru_int, oEq_int, oEq_str, Bool.false_bne, Bool.true_bne, if_true, if_false, Bool.false_eq_true, reduceIte, Bool.not_true, Bool.not_false, List.cons.injEq, true_and, and_true, List.length_cons, List.length_nil, Option.some.injEq, exists_eq_left']
      rw [if_neg (by simp)]
      simp only [b_is_lap_2, wS, sem, Sm.val, Sm.tst, Sm.arg, Sm.itr, boolOf, truthOf, gT, gTs, zip_tup, seq_lst, seq_tup, lst_lst, Co.sem, oInt, Bo.sem, oAdd, oSub, oMul, oDiv, oMod, Bf.sem, oLen, oAbs, oInt1, oGcd, oNeg, oIx, Mt.sem, List.getElem?_cons_zero, List.getElem?_cons_succ, List.set_cons_zero, List.set_cons_succ, setAll, frz_lst, frz_dct, tru_bl, tru_int, oEq_int, oEq_str, Bool.false_bne, Bool.true_bne, if_true, if_false, Bool.false_eq_true, reduceIte, Bool.not_true, Bool.not_false, List.cons.injEq, true_and, and_true, List.length_cons, List.length_nil, Option.some.injEq, exists_eq_left', oIsi_plain pa, tup_kind pa]
      cases a with
      | tup ps =>
        obtain ⟨lp, dp⟩ := tame_tup da
        simp only [isTup, wS, sem, Sm.val, Sm.tst, Sm.arg, Sm.itr, boolOf, truthOf, gT, gTs, zip_tup, seq_lst, seq_tup, lst_lst, Co.sem, oInt, Bo.sem, oAdd, oSub, oMul, oDiv, oMod, Bf.sem, oLen, oAbs, oInt1, oGcd, oNeg, oIx, Mt.sem, List.getElem?_cons_zero, List.getElem?_cons_succ, List.set_cons_zero, List.set_cons_succ, setAll, frz_lst, frz_dct, tru_bl, tru_int, oEq_int, oEq_str, Bool.false_bne, Bool.true_bne, if_true, if_false, Bool.false_eq_true, reduceIte, Bool.not_true, Bool.not_false, List.cons.injEq, true_and, and_true, List.length_cons, List.length_nil, Option.some.injEq, exists_eq_left']
        by_cases h0' : (ps.length : Int) = 0
        · simp only [h0', decide_true, wS, sem, Sm.val, Sm.tst, Sm.arg, Sm.itr, boolOf, truthOf, gT, gTs, zip_tup, seq_lst, seq_tup, lst_lst, Co.sem, oInt, Bo.sem, oAdd, oSub, oMul, oDiv, oMod, Bf.sem, oLen, oAbs, oInt1, oGcd, oNeg, oIx, Mt.sem, List.getElem?_cons_zero, List.getElem?_cons_succ, List.set_cons_zero, List.set_cons_succ, setAll, frz_lst, frz_dct, tru_bl, tru_int, oEq_int, oEq_str, Bool.false_bne, Bool.true_bne, if_true, if_false, Bool.false_eq_true, reduceIte, Bool.not_true, Bool.not_false, List.cons.injEq, true_and, and_true, List.length_cons, List.length_nil, Option.some.injEq, exists_eq_left']
          have : ps = [] := List.length_eq_zero_iff.mp (by omega)
          subst this
          exact k
        · have hne : ps.isEmpty = false := by cases ps <;> simp at h0' ⊢
          simp only [h0', decide_false, wS, sem, Sm.val, Sm.tst, Sm.arg, Sm.itr, boolOf, truthOf, gT, gTs, zip_tup, seq_lst, seq_tup, lst_lst, Co.sem, oInt, Bo.sem, oAdd, oSub, oMul, oDiv, oMod, Bf.sem, oLen, oAbs, oInt1, oGcd, oNeg, oIx, Mt.sem, List.getElem?_cons_zero, List.getElem?_cons_succ, List.set_cons_zero, List.set_cons_succ, setAll, frz_lst, frz_dct, tru_bl, tru_int, oEq_int, oEq_str, Bool.false_bne, Bool.true_bne, if_true, if_false, Bool.false_eq_true, reduceIte, Bool.not_true, Bool.not_false, List.cons.injEq, true_and, and_true, List.length_cons, List.length_nil, Option.some.injEq, exists_eq_left', h1]
          simp only [isLap, hne, Bool.not_false, Bool.true_and] at k
          refine wLc_map (fun t => .bl (isStep m t)) trivial (by simp; exact Nat.le_trans (show ps.length ≤ 45 by omega) (by decide)) ?_ fun _ => ?_
          · intro u hu C hC
            simp only [wS, sem, Sm.val, Sm.tst, Sm.arg, Sm.itr, boolOf, truthOf, gT, gTs, zip_tup, seq_lst, seq_tup, lst_lst, Co.sem, oInt, Bo.sem, oAdd, oSub, oMul, oDiv, oMod, Bf.sem, oLen, oAbs, oInt1, oGcd, oNeg, oIx, Mt.sem, List.getElem?_cons_zero, List.getElem?_cons_succ, List.set_cons_zero, List.set_cons_succ, setAll, frz_lst, frz_dct, tru_bl, tru_int, oEq_int, oEq_str, Bool.false_bne, Bool.true_bne, if_true, if_false, Bool.false_eq_true, reduceIte, Bool.not_true, Bool.not_false, List.cons.injEq, true_and, and_true, List.length_cons, List.length_nil, Option.some.injEq, exists_eq_left', wipeE, List.map_cons, List.map_nil]
            exact ⟨u, m, rfl, dp u hu, hC⟩
          · simp only [List.nil_append]
            have e1 : ps.map (fun u => T.bl (isStep m u)) = (ps.map (isStep m)).map .bl := by rw [List.map_map]; rfl
            rw [e1]
            refine all_bls _ ?_
            have e2 : (ps.map (isStep m)).all id = ps.all (isStep m) := by rw [List.all_map]; rfl
            rw [e2]
            by_cases hs : ps.all (isStep m) = true
            · rw [hs]
              rw [hs, Bool.true_and] at k
              simp only [wS, sem, Sm.val, Sm.tst, Sm.arg, Sm.itr, boolOf, truthOf, gT, gTs, zip_tup, seq_lst, seq_tup, lst_lst, Co.sem, oInt, Bo.sem, oAdd, oSub, oMul, oDiv, oMod, Bf.sem, oLen, oAbs, oInt1, oGcd, oNeg, oIx, Mt.sem, List.getElem?_cons_zero, List.getElem?_cons_succ, List.set_cons_zero, List.set_cons_succ, setAll, frz_lst, frz_dct, tru_bl, tru_int, oEq_int, oEq_str, Bool.false_bne, Bool.true_bne, if_true, if_false, Bool.false_eq_true, reduceIte, Bool.not_true, Bool.not_false, List.cons.injEq, true_and, and_true, List.length_cons, List.length_nil, Option.some.injEq, exists_eq_left']
              simp only [b_is_lap_1, wS, sem, Sm.val, Sm.tst, Sm.arg, Sm.itr, boolOf, truthOf, gT, gTs, zip_tup, seq_lst, seq_tup, lst_lst, Co.sem, oInt, Bo.sem, oAdd, oSub, oMul, oDiv, oMod, Bf.sem, oLen, oAbs, oInt1, oGcd, oNeg, oIx, Mt.sem, List.getElem?_cons_zero, List.getElem?_cons_succ, List.set_cons_zero, List.set_cons_succ, setAll, frz_lst, frz_dct, tru_bl, tru_int, oEq_int, oEq_str, Bool.false_bne, Bool.true_bne, if_true, if_false, Bool.false_eq_true, reduceIte, Bool.not_true, Bool.not_false, List.cons.injEq, true_and, and_true, List.length_cons, List.length_nil, Option.some.injEq, exists_eq_left', oIsN]
              cases n with
              | non =>
                simp only [oIsN, isNon, wS, sem, Sm.val, Sm.tst, Sm.arg, Sm.itr, boolOf, truthOf, gT, gTs, zip_tup, seq_lst, seq_tup, lst_lst, Co.sem, oInt, Bo.sem, oAdd, oSub, oMul, oDiv, oMod, Bf.sem, oLen, oAbs, oInt1, oGcd, oNeg, oIx, Mt.sem, List.getElem?_cons_zero, List.getElem?_cons_succ, List.set_cons_zero, List.set_cons_succ, setAll, frz_lst, frz_dct, tru_bl, tru_int, oEq_int, oEq_str, Bool.false_bne, Bool.true_bne, if_true, if_false, Bool.false_eq_true, reduceIte, Bool.not_true, Bool.not_false, List.cons.injEq, true_and, and_true, List.length_cons, List.length_nil, Option.some.injEq, exists_eq_left']
                simp only [isN] at k
                cases l with
                | false => exact k
                | true =>
                  simp only [Bool.true_and, wS, sem, Sm.val, Sm.tst, Sm.arg, Sm.itr, boolOf, truthOf, gT, gTs, zip_tup, seq_lst, seq_tup, lst_lst, Co.sem, oInt, Bo.sem, oAdd, oSub, oMul, oDiv, oMod, Bf.sem, oLen, oAbs, oInt1, oGcd, oNeg, oIx, Mt.sem, List.getElem?_cons_zero, List.getElem?_cons_succ, List.set_cons_zero, List.set_cons_succ, setAll, frz_lst, frz_dct, tru_bl, tru_int, oEq_int, oEq_str, Bool.false_bne, Bool.true_bne, if_true, if_false, Bool.false_eq_true, reduceIte, Bool.not_true, Bool.not_false, List.cons.injEq, true_and, and_true, List.length_cons, List.length_nil, Option.some.injEq, exists_eq_left'] at k ⊢
                  obtain ⟨qs, rfl, hq⟩ := steps_tame hs dp
                  refine wLc_of stT (fun p : St => .bl (decide (p.2 ≠ 0))) trivial (by simp; exact Nat.le_trans (show qs.length ≤ 45 by simpa using lp) (by decide)) ?_ fun _ => ?_
                  · rintro ⟨i, q⟩ hp2 C hC
                    show gT _ (.tup [.int i, rT q]) _ _ _
                    simp only [wS, sem, Sm.val, Sm.tst, Sm.arg, Sm.itr, boolOf, truthOf, gT, gTs, zip_tup, seq_lst, seq_tup, lst_lst, Co.sem, oInt, Bo.sem, oAdd, oSub, oMul, oDiv, oMod, Bf.sem, oLen, oAbs, oInt1, oGcd, oNeg, oIx, Mt.sem, List.getElem?_cons_zero, List.getElem?_cons_succ, List.set_cons_zero, List.set_cons_succ, setAll, frz_lst, frz_dct, tru_bl, tru_int, oEq_int, oEq_str, Bool.false_bne, Bool.true_bne, if_true, if_false, Bool.false_eq_true, reduceIte, Bool.not_true, Bool.not_false, List.cons.injEq, true_and, and_true, List.length_cons, List.length_nil, Option.some.injEq, exists_eq_left', wipeE, List.map_cons, List.map_nil, hc0]
                    refine oEq_rT ?_
                    simp only [decide_not] at hC
                    rw [Bool.true_xor]
                    exact hC
                  · simp only [List.nil_append]
                    have e3 : qs.map (fun p : St => T.bl (decide (p.2 ≠ 0))) = (qs.map fun p : St => decide (p.2 ≠ 0)).map .bl := by rw [List.map_map]; rfl
                    rw [e3]
                    refine any_bls _ ?_
                    have e4 : (qs.map fun p : St => decide (p.2 ≠ 0)).any id = (qs.map stT).any tmNz := by
                      rw [List.any_map, List.any_map]
                      congr 1
                      funext p
                      exact tmNz_st.symm
                    rw [e4]
                    exact k
              | int j =>
                simp only [oIsN, isNon, wS, sem, Sm.val, Sm.tst, Sm.arg, Sm.itr, boolOf, truthOf, gT, gTs, zip_tup, seq_lst, seq_tup, lst_lst, Co.sem, oInt, Bo.sem, oAdd, oSub, oMul, oDiv, oMod, Bf.sem, oLen, oAbs, oInt1, oGcd, oNeg, oIx, Mt.sem, List.getElem?_cons_zero, List.getElem?_cons_succ, List.set_cons_zero, List.set_cons_succ, setAll, frz_lst, frz_dct, tru_bl, tru_int, oEq_int, oEq_str, Bool.false_bne, Bool.true_bne, if_true, if_false, Bool.false_eq_true, reduceIte, Bool.not_true, Bool.not_false, List.cons.injEq, true_and, and_true, List.length_cons, List.length_nil, Option.some.injEq, exists_eq_left']
                simp only [b_is_lap_0, wS, sem, Sm.val, Sm.tst, Sm.arg, Sm.itr, boolOf, truthOf, gT, gTs, zip_tup, seq_lst, seq_tup, lst_lst, Co.sem, oInt, Bo.sem, oAdd, oSub, oMul, oDiv, oMod, Bf.sem, oLen, oAbs, oInt1, oGcd, oNeg, oIx, Mt.sem, List.getElem?_cons_zero, List.getElem?_cons_succ, List.set_cons_zero, List.set_cons_succ, setAll, frz_lst, frz_dct, tru_bl, tru_int, oEq_int, oEq_str, Bool.false_bne, Bool.true_bne, if_true, if_false, Bool.false_eq_true, reduceIte, Bool.not_true, Bool.not_false, List.cons.injEq, true_and, and_true, List.length_cons, List.length_nil, Option.some.injEq, exists_eq_left', h0]
                refine ⟨.int j, rfl, rfl, ?_⟩
                simp only [TP.isInt, wS, sem, Sm.val, Sm.tst, Sm.arg, Sm.itr, boolOf, truthOf, gT, gTs, zip_tup, seq_lst, seq_tup, lst_lst, Co.sem, oInt, Bo.sem, oAdd, oSub, oMul, oDiv, oMod, Bf.sem, oLen, oAbs, oInt1, oGcd, oNeg, oIx, Mt.sem, List.getElem?_cons_zero, List.getElem?_cons_succ, List.set_cons_zero, List.set_cons_succ, setAll, frz_lst, frz_dct, tru_bl, tru_int, oEq_int, oEq_str, Bool.false_bne, Bool.true_bne, if_true, if_false, Bool.false_eq_true, reduceIte, Bool.not_true, Bool.not_false, List.cons.injEq, true_and, and_true, List.length_cons, List.length_nil, Option.some.injEq, exists_eq_left']
                exact k
              | _ =>
                simp only [oIsN, isNon, wS, sem, Sm.val, Sm.tst, Sm.arg, Sm.itr, boolOf, truthOf, gT, gTs, zip_tup, seq_lst, seq_tup, lst_lst, Co.sem, oInt, Bo.sem, oAdd, oSub, oMul, oDiv, oMod, Bf.sem, oLen, oAbs, oInt1, oGcd, oNeg, oIx, Mt.sem, List.getElem?_cons_zero, List.getElem?_cons_succ, List.set_cons_zero, List.set_cons_succ, setAll, frz_lst, frz_dct, tru_bl, tru_int, oEq_int, oEq_str, Bool.false_bne, Bool.true_bne, if_true, if_false, Bool.false_eq_true, reduceIte, Bool.not_true, Bool.not_false, List.cons.injEq, true_and, and_true, List.length_cons, List.length_nil, Option.some.injEq, exists_eq_left']
                simp only [b_is_lap_0, wS, sem, Sm.val, Sm.tst, Sm.arg, Sm.itr, boolOf, truthOf, gT, gTs, zip_tup, seq_lst, seq_tup, lst_lst, Co.sem, oInt, Bo.sem, oAdd, oSub, oMul, oDiv, oMod, Bf.sem, oLen, oAbs, oInt1, oGcd, oNeg, oIx, Mt.sem, List.getElem?_cons_zero, List.getElem?_cons_succ, List.set_cons_zero, List.set_cons_succ, setAll, frz_lst, frz_dct, tru_bl, tru_int, oEq_int, oEq_str, Bool.false_bne, Bool.true_bne, if_true, if_false, Bool.false_eq_true, reduceIte, Bool.not_true, Bool.not_false, List.cons.injEq, true_and, and_true, List.length_cons, List.length_nil, Option.some.injEq, exists_eq_left', h0]
                exact ⟨_, rfl, pn, k⟩
            · rw [Bool.not_eq_true] at hs
              rw [hs]
              rw [hs, Bool.false_and] at k
              simp only [wS, sem, Sm.val, Sm.tst, Sm.arg, Sm.itr, boolOf, truthOf, gT, gTs, zip_tup, seq_lst, seq_tup, lst_lst, Co.sem, oInt, Bo.sem, oAdd, oSub, oMul, oDiv, oMod, Bf.sem, oLen, oAbs, oInt1, oGcd, oNeg, oIx, Mt.sem, List.getElem?_cons_zero, List.getElem?_cons_succ, List.set_cons_zero, List.set_cons_succ, setAll, frz_lst, frz_dct, tru_bl, tru_int, oEq_int, oEq_str, Bool.false_bne, Bool.true_bne, if_true, if_false, Bool.false_eq_true, reduceIte, Bool.not_true, Bool.not_false, List.cons.injEq, true_and, and_true, List.length_cons, List.length_nil, Option.some.injEq, exists_eq_left']
              exact k
      | _ => exact k
    | [], _, k => rw [if_pos (by simp)]; exact k
    | [_], _, k =>
      rw [isLap_flat (by intro ps n e; cases e)] at k
      rw [if_pos (by simp)]; exact k
    | _ :: _ :: _ :: _, _, k =>
      rw [isLap_flat (by intro ps n e; cases e)] at k
      rw [if_pos (by simp; omega)]; exact k
  | _ => exact k
def spIsPlan : TSp := fun ts S R X => ∃ t m, ts = [t, .int m] ∧ tame 900 t = true ∧ R (.bl (isPlan m t)) S
theorem w_isPlan (G : Gx) (N : List Str) (hN : N.length = 4) {x0 : Str} (h0 : G.fns[0]? = some (x0, spLap)) (ts : List T) (S : Sto) (R : RP) (X : XP) (h : spIsPlan ts S R X) : ts.length = 2 ∧ wS b_is_plan G (startE N ts) S { nx := fun _ S' => R .non S', rt := R, xx := fun _ => X } := by
  obtain ⟨t, m, rfl, hd, k⟩ := h
  refine ⟨rfl, ?_⟩
  unfold startE
  rw [hN]
  show wS b_is_plan G [some t, some (.int m), none, none] S _
  have hp := tame_plain hd
  simp only [b_is_plan, b_is_plan_1, wS, sem, Sm.val, Sm.tst, Sm.arg, Sm.itr, boolOf, truthOf, gT, gTs, zip_tup, seq_lst, seq_tup, lst_lst, Co.sem, oInt, Bo.sem, oAdd, oSub, oMul, oDiv, oMod, Bf.sem, oLen, oAbs, oInt1, oGcd, oNeg, oIx, Mt.sem, List.getElem?_cons_zero, List.getElem?_cons_succ, List.set_cons_zero, List.set_cons_succ, setAll, frz_lst, frz_dct, tru_bl, tru_int, oEq_int, oEq_str, Bool.false_bne, Bool.true_bne, if_true, if_false, Bool.false_eq_true, reduceIte, Bool.not_true, Bool.not_false, List.cons.injEq, true_and, and_true, List.length_cons, List.length_nil, Option.some.injEq, exists_eq_left', oIsi_plain hp, tup_kind hp]
  cases t with
  | tup us =>
    obtain ⟨lu, du⟩ := tame_tup hd
    simp only [isTup, wS, sem, Sm.val, Sm.tst, Sm.arg, Sm.itr, boolOf, truthOf, gT, gTs, zip_tup, seq_lst, seq_tup, lst_lst, Co.sem, oInt, Bo.sem, oAdd, oSub, oMul, oDiv, oMod, Bf.sem, oLen, oAbs, oInt1, oGcd, oNeg, oIx, Mt.sem, List.getElem?_cons_zero, List.getElem?_cons_succ, List.set_cons_zero, List.set_cons_succ, setAll, frz_lst, frz_dct, tru_bl, tru_int, oEq_int, oEq_str, Bool.false_bne, Bool.true_bne, if_true, if_false, Bool.false_eq_true, reduceIte, Bool.not_true, Bool.not_false, List.cons.injEq, true_and, and_true, List.length_cons, List.length_nil, Option.some.injEq, exists_eq_left']
    simp only [b_is_plan_0, wS, sem, Sm.val, Sm.tst, Sm.arg, Sm.itr, boolOf, truthOf, gT, gTs, zip_tup, seq_lst, seq_tup, lst_lst, Co.sem, oInt, Bo.sem, oAdd, oSub, oMul, oDiv, oMod, Bf.sem, oLen, oAbs, oInt1, oGcd, oNeg, oIx, Mt.sem, List.getElem?_cons_zero, List.getElem?_cons_succ, List.set_cons_zero, List.set_cons_succ, setAll, frz_lst, frz_dct, tru_bl, tru_int, oEq_int, oEq_str, Bool.false_bne, Bool.true_bne, if_true, if_false, Bool.false_eq_true, reduceIte, Bool.not_true, Bool.not_false, List.cons.injEq, true_and, and_true, List.length_cons, List.length_nil, Option.some.injEq, exists_eq_left', h0]
    rw [List.mapIdx_eq_zipIdx_map]
    refine wLc_of (fun p : T × Nat => T.tup [.int (p.2 : Nat), p.1]) (fun p => .bl (isLap m (decide (p.2 + 1 = us.length)) p.1)) trivial (by simp; exact Nat.le_trans (show us.length ≤ 45 by omega) (by decide)) ?_ fun _ => ?_
    · rintro ⟨u, i⟩ hm C hC
      simp only [wS, sem, Sm.val, Sm.tst, Sm.arg, Sm.itr, boolOf, truthOf, gT, gTs, zip_tup, seq_lst, seq_tup, lst_lst, Co.sem, oInt, Bo.sem, oAdd, oSub, oMul, oDiv, oMod, Bf.sem, oLen, oAbs, oInt1, oGcd, oNeg, oIx, Mt.sem, List.getElem?_cons_zero, List.getElem?_cons_succ, List.set_cons_zero, List.set_cons_succ, setAll, frz_lst, frz_dct, tru_bl, tru_int, oEq_int, oEq_str, Bool.false_bne, Bool.true_bne, if_true, if_false, Bool.false_eq_true, reduceIte, Bool.not_true, Bool.not_false, List.cons.injEq, true_and, and_true, List.length_cons, List.length_nil, Option.some.injEq, exists_eq_left', wipeE, List.map_cons, List.map_nil]
      have e : decide (((i : Nat) : Int) + 1 = (us.length : Int)) = decide (i + 1 = us.length) := by
        rw [Bool.eq_iff_iff, decide_eq_true_eq, decide_eq_true_eq]
        omega
      rw [e]
      have hu := List.mem_zipIdx' hm
      exact ⟨u, m, _, rfl, du u (by rw [hu.2]; exact List.getElem_mem _), hC⟩
    · simp only [List.nil_append]
      have e1 : us.zipIdx.map (fun p : T × Nat => T.bl (isLap m (decide (p.2 + 1 = us.length)) p.1)) = (us.mapIdx fun i t => isLap m (decide (i + 1 = us.length)) t).map .bl := by
        rw [List.mapIdx_eq_zipIdx_map, List.map_map]; rfl
      rw [e1]
      refine all_bls _ ?_
      exact k
  | _ => exact k
def spLPlan : TSp := fun ts S R X => ∃ t m, ts = [t, .int m] ∧ tame 60 t = true ∧ R (.bl (isPlan m t)) S
theorem sum_zero : ∀ {xs : List Rat}, (∀ x ∈ xs, 0 ≤ x) → 0 ≤ sumR xs ∧ (sumR xs = 0 ↔ ∀ x ∈ xs, x = 0)
  | [], _ => ⟨Rat.le_refl, by simp [sumR]⟩
  | x :: xs, h => by
    obtain ⟨a, b⟩ := sum_zero (xs := xs) fun y hy => h y (by simp [hy])
    have hx := h x (by simp)
    have e : sumR (x :: xs) = x + sumR xs := rfl
    rw [e]
    refine ⟨by grind, ?_⟩
    constructor
    · intro z
      have x0 : x = 0 := by grind
      have s0 : sumR xs = 0 := by grind
      intro y hy
      rcases List.mem_cons.mp hy with rfl | hy
      · exact x0
      · exact b.mp s0 y hy
    · intro z
      rw [z x (by simp), b.mpr fun y hy => z y (by simp [hy]), Rat.add_zero]
/-- one step of a lap, looked at -/
theorem w_pstep {G : Gx} {x1 : Str} (h1 : G.fns[1]? = some (x1, spLRow)) {a0 a2 a3 a5 a6 : Option T} {m : Int} {u : T} (hu : tame 60 u = true) {S : Sto} {D : En} (bad : isStep m u = false → D.rt (.bl false) S) (good : isStep m u = true → D.nx [a0, some (.int m), a2, a3, some u, a5, a6] S) :
    wS b_l_is_plan_5 G [a0, some (.int m), a2, a3, some u, a5, a6] S D := by
  have pu := tame_plain hu
  simp only [b_l_is_plan_5, wS, sem, Sm.val, Sm.tst, Sm.arg, Sm.itr, boolOf, truthOf, gT, gTs, zip_tup, seq_lst, seq_tup, lst_lst, Co.sem, oInt, Bo.sem, oAdd, oSub, oMul, oDiv, oMod, Bf.sem, oLen, oAbs, oInt1, oGcd, oNeg, oIx, Mt.sem, List.getElem?_cons_zero, List.getElem?_cons_succ, List.set_cons_zero, List.set_cons_succ, setAll, frz_lst, frz_dct, tru_bl, tru_int, oEq_int, oEq_str, Bool.false_bne, Bool.true_bne, if_true, if_false, Bool.false_eq_true, reduceIte, Bool.not_true, Bool.not_false, List.cons.injEq, true_and, and_true, List.length_cons, List.length_nil, Option.some.injEq, exists_eq_left', oIsi_plain pu, tup_kind pu]
  cases u with
  | tup vs =>
    simp only [isTup, wS, sem, Sm.val, Sm.tst, Sm.arg, Sm.itr, boolOf, truthOf, gT, gTs, zip_tup, seq_lst, seq_tup, lst_lst, Co.sem, oInt, Bo.sem, oAdd, oSub, oMul, oDiv, oMod, Bf.sem, oLen, oAbs, oInt1, oGcd, oNeg, oIx, Mt.sem, List.getElem?_cons_zero, List.getElem?_cons_succ, List.set_cons_zero, List.set_cons_succ, setAll, frz_lst, frz_dct, tru_bl, tru_int, oEq_int, oEq_str, Bool.false_bne, Bool.true_bne, if_true, if_false, Bool.false_eq_true, reduceIte, Bool.not_true, Bool.not_false, List.cons.injEq, true_and, and_true, List.length_cons, List.length_nil, Option.some.injEq, exists_eq_left']
    match vs, hu, bad, good with
    | [a, b], hu, bad, good =>
      have da := (tame_tup hu).2 a (by simp)
      have db := (tame_tup hu).2 b (by simp)
      have pa := tame_plain da
      simp only [wS, sem, Sm.val, Sm.tst, Sm.arg, Sm.itr, boolOf, truthOf, gT, gTs, zip_tup, seq_lst, seq_tup, lst_lst, Co.sem, oInt, Bo.sem, oAdd, oSub, oMul, oDiv, oMod, Bf.sem, oLen, oAbs, oInt1, oGcd, oNeg, oIx, Mt.sem, List.getElem?_cons_zero, List.getElem?_cons_succ, List.set_cons_zero, List.set_cons_succ, setAll, frz_lst, frz_dct, tru_bl, tru_int, oEq_int, oEq_str, Bool.false_bne, Bool.true_bne, if_true, if_false, Bool.false_eq_true, reduceIte, Bool.not_true, Bool.not_false, List.cons.injEq, true_and, and_true, List.length_cons, List.length_nil, Option.some.injEq, exists_eq_left']
      refine ⟨a, at_head, ?_⟩
      simp only [oIsi_plain pa]
      have kk := int_kind pa
      cases a with
      | int k =>
        have e1 : (kind (T.int k)).sub .bool = false := rfl
        have e2 : (kind (T.int k)).sub .int = true := rfl
        simp only [e1, wS, sem, Sm.val, Sm.tst, Sm.arg, Sm.itr, boolOf, truthOf, gT, gTs, zip_tup, seq_lst, seq_tup, lst_lst, Co.sem, oInt, Bo.sem, oAdd, oSub, oMul, oDiv, oMod, Bf.sem, oLen, oAbs, oInt1, oGcd, oNeg, oIx, Mt.sem, List.getElem?_cons_zero, List.getElem?_cons_succ, List.set_cons_zero, List.set_cons_succ, setAll, frz_lst, frz_dct, tru_bl, tru_int, oEq_int, oEq_str, Bool.false_bne, Bool.true_bne, if_true, if_false, Bool.false_eq_true, reduceIte, Bool.not_true, Bool.not_false, List.cons.injEq, true_and, and_true, List.length_cons, List.length_nil, Option.some.injEq, exists_eq_left']
        simp only [b_l_is_plan_4, wS, sem, Sm.val, Sm.tst, Sm.arg, Sm.itr, boolOf, truthOf, gT, gTs, zip_tup, seq_lst, seq_tup, lst_lst, Co.sem, oInt, Bo.sem, oAdd, oSub, oMul, oDiv, oMod, Bf.sem, oLen, oAbs, oInt1, oGcd, oNeg, oIx, Mt.sem, List.getElem?_cons_zero, List.getElem?_cons_succ, List.set_cons_zero, List.set_cons_succ, setAll, frz_lst, frz_dct, tru_bl, tru_int, oEq_int, oEq_str, Bool.false_bne, Bool.true_bne, if_true, if_false, Bool.false_eq_true, reduceIte, Bool.not_true, Bool.not_false, List.cons.injEq, true_and, and_true, List.length_cons, List.length_nil, Option.some.injEq, exists_eq_left']
        refine ⟨.int k, at_head, ?_⟩
        simp only [oIsi_plain pa, e2, wS, sem, Sm.val, Sm.tst, Sm.arg, Sm.itr, boolOf, truthOf, gT, gTs, zip_tup, seq_lst, seq_tup, lst_lst, Co.sem, oInt, Bo.sem, oAdd, oSub, oMul, oDiv, oMod, Bf.sem, oLen, oAbs, oInt1, oGcd, oNeg, oIx, Mt.sem, List.getElem?_cons_zero, List.getElem?_cons_succ, List.set_cons_zero, List.set_cons_succ, setAll, frz_lst, frz_dct, tru_bl, tru_int, oEq_int, oEq_str, Bool.false_bne, Bool.true_bne, if_true, if_false, Bool.false_eq_true, reduceIte, Bool.not_true, Bool.not_false, List.cons.injEq, true_and, and_true, List.length_cons, List.length_nil, Option.some.injEq, exists_eq_left']
        simp only [b_l_is_plan_3, wS, sem, Sm.val, Sm.tst, Sm.arg, Sm.itr, boolOf, truthOf, gT, gTs, zip_tup, seq_lst, seq_tup, lst_lst, Co.sem, oInt, Bo.sem, oAdd, oSub, oMul, oDiv, oMod, Bf.sem, oLen, oAbs, oInt1, oGcd, oNeg, oIx, Mt.sem, List.getElem?_cons_zero, List.getElem?_cons_succ, List.set_cons_zero, List.set_cons_succ, setAll, frz_lst, frz_dct, tru_bl, tru_int, oEq_int, oEq_str, Bool.false_bne, Bool.true_bne, if_true, if_false, Bool.false_eq_true, reduceIte, Bool.not_true, Bool.not_false, List.cons.injEq, true_and, and_true, List.length_cons, List.length_nil, Option.some.injEq, exists_eq_left']
        refine ⟨.int k, at_head, ?_⟩
        simp only [isStep] at bad good
        by_cases c1 : 0 ≤ k
        · simp only [c1, decide_true, Bool.true_and, wS, sem, Sm.val, Sm.tst, Sm.arg, Sm.itr, boolOf, truthOf, gT, gTs, zip_tup, seq_lst, seq_tup, lst_lst, Co.sem, oInt, Bo.sem, oAdd, oSub, oMul, oDiv, oMod, Bf.sem, oLen, oAbs, oInt1, oGcd, oNeg, oIx, Mt.sem, List.getElem?_cons_zero, List.getElem?_cons_succ, List.set_cons_zero, List.set_cons_succ, setAll, frz_lst, frz_dct, tru_bl, tru_int, oEq_int, oEq_str, Bool.false_bne, Bool.true_bne, if_true, if_false, Bool.false_eq_true, reduceIte, Bool.not_true, Bool.not_false, List.cons.injEq, true_and, and_true, List.length_cons, List.length_nil, Option.some.injEq, exists_eq_left'] at bad good ⊢
          by_cases c2 : k < m
          · simp only [c2, decide_true, Bool.true_and, wS, sem, Sm.val, Sm.tst, Sm.arg, Sm.itr, boolOf, truthOf, gT, gTs, zip_tup, seq_lst, seq_tup, lst_lst, Co.sem, oInt, Bo.sem, oAdd, oSub, oMul, oDiv, oMod, Bf.sem, oLen, oAbs, oInt1, oGcd, oNeg, oIx, Mt.sem, List.getElem?_cons_zero, List.getElem?_cons_succ, List.set_cons_zero, List.set_cons_succ, setAll, frz_lst, frz_dct, tru_bl, tru_int, oEq_int, oEq_str, Bool.false_bne, Bool.true_bne, if_true, if_false, Bool.false_eq_true, reduceIte, Bool.not_true, Bool.not_false, List.cons.injEq, true_and, and_true, List.length_cons, List.length_nil, Option.some.injEq, exists_eq_left', h1] at bad good ⊢
            refine ⟨b, rfl, by decide, ?_⟩
            refine ⟨.tup [b], 1, rfl, ?_, ?_⟩
            · exact tame_mk (by simp) fun z hz => by rw [List.mem_singleton.mp hz]; exact tame_up (by omega) b db
            · have er : isRow (.tup [b]) 1 = isFr b := by simp [isRow]
              rw [er]
              by_cases c3 : isFr b = true
              · obtain ⟨q, rfl, sq⟩ := fr_tame c3 db
                simp only [c3, notNeg_rT, Bool.true_and, Bool.not_true, wS, sem, Sm.val, Sm.tst, Sm.arg, Sm.itr, boolOf, truthOf, gT, gTs, zip_tup, seq_lst, seq_tup, lst_lst, Co.sem, oInt, Bo.sem, oAdd, oSub, oMul, oDiv, oMod, Bf.sem, oLen, oAbs, oInt1, oGcd, oNeg, oIx, Mt.sem, List.getElem?_cons_zero, List.getElem?_cons_succ, List.set_cons_zero, List.set_cons_succ, setAll, frz_lst, frz_dct, tru_bl, tru_int, oEq_int, oEq_str, Bool.false_bne, Bool.true_bne, if_true, if_false, Bool.false_eq_true, reduceIte, Bool.not_true, Bool.not_false, List.cons.injEq, true_and, and_true, List.length_cons, List.length_nil, Option.some.injEq, exists_eq_left'] at bad good ⊢
                refine ⟨rT q, rfl, ?_⟩
                show ∃ t, atT [T.int q.num, T.int q.den] 0 = some t ∧ _
                refine ⟨.int q.num, at_head, ?_⟩
                by_cases c4 : 0 ≤ q
                · have : ¬ q.num < 0 := by have := Rat.num_nonneg.mpr c4; omega
                  simp only [this, decide_false, wS, sem, Sm.val, Sm.tst, Sm.arg, Sm.itr, boolOf, truthOf, gT, gTs, zip_tup, seq_lst, seq_tup, lst_lst, Co.sem, oInt, Bo.sem, oAdd, oSub, oMul, oDiv, oMod, Bf.sem, oLen, oAbs, oInt1, oGcd, oNeg, oIx, Mt.sem, List.getElem?_cons_zero, List.getElem?_cons_succ, List.set_cons_zero, List.set_cons_succ, setAll, frz_lst, frz_dct, tru_bl, tru_int, oEq_int, oEq_str, Bool.false_bne, Bool.true_bne, if_true, if_false, Bool.false_eq_true, reduceIte, Bool.not_true, Bool.not_false, List.cons.injEq, true_and, and_true, List.length_cons, List.length_nil, Option.some.injEq, exists_eq_left']
                  exact good (decide_eq_true c4)
                · have : q.num < 0 := by
                    have : ¬ 0 ≤ q.num := fun z => c4 (Rat.num_nonneg.mp z)
                    omega
                  simp only [this, decide_true, wS, sem, Sm.val, Sm.tst, Sm.arg, Sm.itr, boolOf, truthOf, gT, gTs, zip_tup, seq_lst, seq_tup, lst_lst, Co.sem, oInt, Bo.sem, oAdd, oSub, oMul, oDiv, oMod, Bf.sem, oLen, oAbs, oInt1, oGcd, oNeg, oIx, Mt.sem, List.getElem?_cons_zero, List.getElem?_cons_succ, List.set_cons_zero, List.set_cons_succ, setAll, frz_lst, frz_dct, tru_bl, tru_int, oEq_int, oEq_str, Bool.false_bne, Bool.true_bne, if_true, if_false, Bool.false_eq_true, reduceIte, Bool.not_true, Bool.not_false, List.cons.injEq, true_and, and_true, List.length_cons, List.length_nil, Option.some.injEq, exists_eq_left']
                  exact bad (decide_eq_false c4)
              · rw [Bool.not_eq_true] at c3
                simp only [c3, Bool.false_and, Bool.not_false, wS, sem, Sm.val, Sm.tst, Sm.arg, Sm.itr, boolOf, truthOf, gT, gTs, zip_tup, seq_lst, seq_tup, lst_lst, Co.sem, oInt, Bo.sem, oAdd, oSub, oMul, oDiv, oMod, Bf.sem, oLen, oAbs, oInt1, oGcd, oNeg, oIx, Mt.sem, List.getElem?_cons_zero, List.getElem?_cons_succ, List.set_cons_zero, List.set_cons_succ, setAll, frz_lst, frz_dct, tru_bl, tru_int, oEq_int, oEq_str, Bool.false_bne, Bool.true_bne, if_true, if_false, Bool.false_eq_true, reduceIte, Bool.not_true, Bool.not_false, List.cons.injEq, true_and, and_true, List.length_cons, List.length_nil, Option.some.injEq, exists_eq_left'] at bad ⊢
                exact bad trivial
          · simp only [c2, decide_false, Bool.false_and, wS, sem, Sm.val, Sm.tst, Sm.arg, Sm.itr, boolOf, truthOf, gT, gTs, zip_tup, seq_lst, seq_tup, lst_lst, Co.sem, oInt, Bo.sem, oAdd, oSub, oMul, oDiv, oMod, Bf.sem, oLen, oAbs, oInt1, oGcd, oNeg, oIx, Mt.sem, List.getElem?_cons_zero, List.getElem?_cons_succ, List.set_cons_zero, List.set_cons_succ, setAll, frz_lst, frz_dct, tru_bl, tru_int, oEq_int, oEq_str, Bool.false_bne, Bool.true_bne, if_true, if_false, Bool.false_eq_true, reduceIte, Bool.not_true, Bool.not_false, List.cons.injEq, true_and, and_true, List.length_cons, List.length_nil, Option.some.injEq, exists_eq_left'] at bad ⊢
            exact bad trivial
        · simp only [c1, decide_false, Bool.false_and, wS, sem, Sm.val, Sm.tst, Sm.arg, Sm.itr, boolOf, truthOf, gT, gTs, zip_tup, seq_lst, seq_tup, lst_lst, Co.sem, oInt, Bo.sem, oAdd, oSub, oMul, oDiv, oMod, Bf.sem, oLen, oAbs, oInt1, oGcd, oNeg, oIx, Mt.sem, List.getElem?_cons_zero, List.getElem?_cons_succ, List.set_cons_zero, List.set_cons_succ, setAll, frz_lst, frz_dct, tru_bl, tru_int, oEq_int, oEq_str, Bool.false_bne, Bool.true_bne, if_true, if_false, Bool.false_eq_true, reduceIte, Bool.not_true, Bool.not_false, List.cons.injEq, true_and, and_true, List.length_cons, List.length_nil, Option.some.injEq, exists_eq_left'] at bad ⊢
          exact bad trivial
      | bl c => exact bad rfl
      | _ =>
        first
        | (exfalso; revert pa; decide)
        | (show wS b_l_is_plan_4 G _ S D
           simp only [b_l_is_plan_4, wS, sem, Sm.val, Sm.tst, Sm.arg, Sm.itr, boolOf, truthOf, gT, gTs, zip_tup, seq_lst, seq_tup, lst_lst, Co.sem, oInt, Bo.sem, oAdd, oSub, oMul, oDiv, oMod, Bf.sem, oLen, oAbs, oInt1, oGcd, oNeg, oIx, Mt.sem, List.getElem?_cons_zero, List.getElem?_cons_succ, List.set_cons_zero, List.set_cons_succ, setAll, frz_lst, frz_dct, tru_bl, tru_int, oEq_int, oEq_str, Bool.false_bne, Bool.true_bne, if_true, if_false, Bool.false_eq_true, reduceIte, Bool.not_true, Bool.not_false, List.cons.injEq, true_and, and_true, List.length_cons, List.length_nil, Option.some.injEq, exists_eq_left']
           refine ⟨_, at_head, ?_⟩
           simp only [oIsi_plain pa]
           exact bad rfl)
    | [], _, bad, _ => exact bad rfl
    | [_], _, bad, _ => exact bad (by simp only [isStep])
    | _ :: _ :: _ :: r, _, bad, _ =>
      have : ¬ (((r.length + 1 + 1 + 1 : Nat) : Int) = 2) := by omega
      simp only [List.length_cons, this, decide_false, wS, sem, Sm.val, Sm.tst, Sm.arg, Sm.itr, boolOf, truthOf, gT, gTs, zip_tup, seq_lst, seq_tup, lst_lst, Co.sem, oInt, Bo.sem, oAdd, oSub, oMul, oDiv, oMod, Bf.sem, oLen, oAbs, oInt1, oGcd, oNeg, oIx, Mt.sem, List.getElem?_cons_zero, List.getElem?_cons_succ, List.set_cons_zero, List.set_cons_succ, setAll, frz_lst, frz_dct, tru_bl, tru_int, oEq_int, oEq_str, Bool.false_bne, Bool.true_bne, if_true, if_false, Bool.false_eq_true, reduceIte, Bool.not_true, Bool.not_false, List.cons.injEq, true_and, and_true, List.length_cons, List.length_nil, Option.some.injEq, exists_eq_left']
      exact bad (by simp only [isStep])
  | _ => exact bad rfl
theorem w_lplan (G : Gx) (N : List Str) (hN : N.length = 7) {x1 : Str} (h1 : G.fns[1]? = some (x1, spLRow)) {x0 : Str} (h0 : G.fns[0]? = some (x0, spAll)) (ts : List T) (S : Sto) (R : RP) (X : XP) (h : spLPlan ts S R X) : ts.length = 2 ∧ wS b_l_is_plan G (startE N ts) S { nx := fun _ S' => R .non S', rt := R, xx := fun _ => X } := by
  obtain ⟨t, m, rfl, hd, k⟩ := h
  refine ⟨rfl, ?_⟩
  unfold startE
  rw [hN]
  show wS b_l_is_plan G [some t, some (.int m), none, none, none, none, none] S _
  have hp := tame_plain hd
  simp only [b_l_is_plan, b_l_is_plan_9, wS, sem, Sm.val, Sm.tst, Sm.arg, Sm.itr, boolOf, truthOf, gT, gTs, zip_tup, seq_lst, seq_tup, lst_lst, Co.sem, oInt, Bo.sem, oAdd, oSub, oMul, oDiv, oMod, Bf.sem, oLen, oAbs, oInt1, oGcd, oNeg, oIx, Mt.sem, List.getElem?_cons_zero, List.getElem?_cons_succ, List.set_cons_zero, List.set_cons_succ, setAll, frz_lst, frz_dct, tru_bl, tru_int, oEq_int, oEq_str, Bool.false_bne, Bool.true_bne, if_true, if_false, Bool.false_eq_true, reduceIte, Bool.not_true, Bool.not_false, List.cons.injEq, true_and, and_true, List.length_cons, List.length_nil, Option.some.injEq, exists_eq_left', oIsi_plain hp, tup_kind hp]
  cases t with
  | tup us =>
    obtain ⟨lu, du⟩ := tame_tup hd
    simp only [isTup, wS, sem, Sm.val, Sm.tst, Sm.arg, Sm.itr, boolOf, truthOf, gT, gTs, zip_tup, seq_lst, seq_tup, lst_lst, Co.sem, oInt, Bo.sem, oAdd, oSub, oMul, oDiv, oMod, Bf.sem, oLen, oAbs, oInt1, oGcd, oNeg, oIx, Mt.sem, List.getElem?_cons_zero, List.getElem?_cons_succ, List.set_cons_zero, List.set_cons_succ, setAll, frz_lst, frz_dct, tru_bl, tru_int, oEq_int, oEq_str, Bool.false_bne, Bool.true_bne, if_true, if_false, Bool.false_eq_true, reduceIte, Bool.not_true, Bool.not_false, List.cons.injEq, true_and, and_true, List.length_cons, List.length_nil, Option.some.injEq, exists_eq_left']
    have bad : ∀ {i : Nat} {u : T}, us[i]? = some u → isLap m (decide (i + 1 = us.length)) u = false → R (.bl false) S := fun {i u} hi hb => by
      have e : isPlan m (.tup us) = false := by
        rw [Bool.eq_false_iff]
        intro z
        rw [all_idx.mp z i u hi] at hb
        cases hb
      rw [e] at k; exact k
    simp only [b_l_is_plan_8, wS, sem, Sm.val, Sm.tst, Sm.arg, Sm.itr, boolOf, truthOf, gT, gTs, zip_tup, seq_lst, seq_tup, lst_lst, Co.sem, oInt, Bo.sem, oAdd, oSub, oMul, oDiv, oMod, Bf.sem, oLen, oAbs, oInt1, oGcd, oNeg, oIx, Mt.sem, List.getElem?_cons_zero, List.getElem?_cons_succ, List.set_cons_zero, List.set_cons_succ, setAll, frz_lst, frz_dct, tru_bl, tru_int, oEq_int, oEq_str, Bool.false_bne, Bool.true_bne, if_true, if_false, Bool.false_eq_true, reduceIte, Bool.not_true, Bool.not_false, List.cons.injEq, true_and, and_true, List.length_cons, List.length_nil, Option.some.injEq, exists_eq_left']
    refine wFor_by (fun i e s => s = S ∧ (∃ a b c, e = [some (.tup us), some (.int m), a, b, c, none, none]) ∧ ∀ j u, j < i → us[j]? = some u → isLap m (decide (j + 1 = us.length)) u = true) (fun _ _ _ _ => trivial) ?_ ?_ ⟨rfl, ⟨_, _, _, rfl⟩, fun j _ hj => by omega⟩
    · rintro i t e s' C ht ⟨rfl, ⟨a, b, c, rfl⟩, hall⟩ hC
      rw [List.getElem?_mapIdx] at ht
      obtain ⟨u, hu, rfl⟩ := Option.map_eq_some_iff.mp ht
      have tu := du u (List.mem_of_getElem? hu)
      have pu := tame_plain tu
      have bad := bad hu
      have li := (List.getElem?_eq_some_iff.mp hu).1
      simp only [b_l_is_plan_7, wS, sem, Sm.val, Sm.tst, Sm.arg, Sm.itr, boolOf, truthOf, gT, gTs, zip_tup, seq_lst, seq_tup, lst_lst, Co.sem, oInt, Bo.sem, oAdd, oSub, oMul, oDiv, oMod, Bf.sem, oLen, oAbs, oInt1, oGcd, oNeg, oIx, Mt.sem, List.getElem?_cons_zero, List.getElem?_cons_succ, List.set_cons_zero, List.set_cons_succ, setAll, frz_lst, frz_dct, tru_bl, tru_int, oEq_int, oEq_str, Bool.false_bne, Bool.true_bne, if_true, if_false, Bool.false_eq_true, reduceIte, Bool.not_true, Bool.not_false, List.cons.injEq, true_and, and_true, List.length_cons, List.length_nil, Option.some.injEq, exists_eq_left', oIsi_plain pu, tup_kind pu]
      cases u with
      | tup vs =>
        simp only [isTup, wS, sem, Sm.val, Sm.tst, Sm.arg, Sm.itr, boolOf, truthOf, gT, gTs, zip_tup, seq_lst, seq_tup, lst_lst, Co.sem, oInt, Bo.sem, oAdd, oSub, oMul, oDiv, oMod, Bf.sem, oLen, oAbs, oInt1, oGcd, oNeg, oIx, Mt.sem, List.getElem?_cons_zero, List.getElem?_cons_succ, List.set_cons_zero, List.set_cons_succ, setAll, frz_lst, frz_dct, tru_bl, tru_int, oEq_int, oEq_str, Bool.false_bne, Bool.true_bne, if_true, if_false, Bool.false_eq_true, reduceIte, Bool.not_true, Bool.not_false, List.cons.injEq, true_and, and_true, List.length_cons, List.length_nil, Option.some.injEq, exists_eq_left']
        match vs, tu, bad, hu with
        | [x, n], tu, bad, hu =>
          have dx := (tame_tup tu).2 x (by simp)
          have dn := (tame_tup tu).2 n (by simp)
          have px := tame_plain dx
          have pn := tame_plain dn
          simp only [wS, sem, Sm.val, Sm.tst, Sm.arg, Sm.itr, boolOf, truthOf, gT, gTs, zip_tup, seq_lst, seq_tup, lst_lst, Co.sem, oInt, Bo.sem, oAdd, oSub, oMul, oDiv, oMod, Bf.sem, oLen, oAbs, oInt1, oGcd, oNeg, oIx, Mt.sem, List.getElem?_cons_zero, List.getElem?_cons_succ, List.set_cons_zero, List.set_cons_succ, setAll, frz_lst, frz_dct, tru_bl, tru_int, oEq_int, oEq_str, Bool.false_bne, Bool.true_bne, if_true, if_false, Bool.false_eq_true, reduceIte, Bool.not_true, Bool.not_false, List.cons.injEq, true_and, and_true, List.length_cons, List.length_nil, Option.some.injEq, exists_eq_left']
          rw [if_neg (by simp)]
          refine ⟨x, at_head, ?_⟩
          simp only [oIsi_plain px, tup_kind px]
          cases x with
          | tup ps =>
            obtain ⟨lp, dp⟩ := tame_tup dx
            simp only [isTup, wS, sem, Sm.val, Sm.tst, Sm.arg, Sm.itr, boolOf, truthOf, gT, gTs, zip_tup, seq_lst, seq_tup, lst_lst, Co.sem, oInt, Bo.sem, oAdd, oSub, oMul, oDiv, oMod, Bf.sem, oLen, oAbs, oInt1, oGcd, oNeg, oIx, Mt.sem, List.getElem?_cons_zero, List.getElem?_cons_succ, List.set_cons_zero, List.set_cons_succ, setAll, frz_lst, frz_dct, tru_bl, tru_int, oEq_int, oEq_str, Bool.false_bne, Bool.true_bne, if_true, if_false, Bool.false_eq_true, reduceIte, Bool.not_true, Bool.not_false, List.cons.injEq, true_and, and_true, List.length_cons, List.length_nil, Option.some.injEq, exists_eq_left']
            refine ⟨.tup ps, at_head, ?_⟩
            refine ⟨by decide, ?_⟩
            show (oEq false (.tup ps) (.tup []) _ _)
            simp only [oEq, wS, sem, Sm.val, Sm.tst, Sm.arg, Sm.itr, boolOf, truthOf, gT, gTs, zip_tup, seq_lst, seq_tup, lst_lst, Co.sem, oInt, Bo.sem, oAdd, oSub, oMul, oDiv, oMod, Bf.sem, oLen, oAbs, oInt1, oGcd, oNeg, oIx, Mt.sem, List.getElem?_cons_zero, List.getElem?_cons_succ, List.set_cons_zero, List.set_cons_succ, setAll, frz_lst, frz_dct, tru_bl, tru_int, oEq_int, oEq_str, Bool.false_bne, Bool.true_bne, if_true, if_false, Bool.false_eq_true, reduceIte, Bool.not_true, Bool.not_false, List.cons.injEq, true_and, and_true, List.length_cons, List.length_nil, Option.some.injEq, exists_eq_left']
            by_cases hne : ps.isEmpty = true
            · simp only [hne, wS, sem, Sm.val, Sm.tst, Sm.arg, Sm.itr, boolOf, truthOf, gT, gTs, zip_tup, seq_lst, seq_tup, lst_lst, Co.sem, oInt, Bo.sem, oAdd, oSub, oMul, oDiv, oMod, Bf.sem, oLen, oAbs, oInt1, oGcd, oNeg, oIx, Mt.sem, List.getElem?_cons_zero, List.getElem?_cons_succ, List.set_cons_zero, List.set_cons_succ, setAll, frz_lst, frz_dct, tru_bl, tru_int, oEq_int, oEq_str, Bool.false_bne, Bool.true_bne, if_true, if_false, Bool.false_eq_true, reduceIte, Bool.not_true, Bool.not_false, List.cons.injEq, true_and, and_true, List.length_cons, List.length_nil, Option.some.injEq, exists_eq_left']
              exact bad (by simp [isLap, hne])
            · rw [Bool.not_eq_true] at hne
              simp only [hne, wS, sem, Sm.val, Sm.tst, Sm.arg, Sm.itr, boolOf, truthOf, gT, gTs, zip_tup, seq_lst, seq_tup, lst_lst, Co.sem, oInt, Bo.sem, oAdd, oSub, oMul, oDiv, oMod, Bf.sem, oLen, oAbs, oInt1, oGcd, oNeg, oIx, Mt.sem, List.getElem?_cons_zero, List.getElem?_cons_succ, List.set_cons_zero, List.set_cons_succ, setAll, frz_lst, frz_dct, tru_bl, tru_int, oEq_int, oEq_str, Bool.false_bne, Bool.true_bne, if_true, if_false, Bool.false_eq_true, reduceIte, Bool.not_true, Bool.not_false, List.cons.injEq, true_and, and_true, List.length_cons, List.length_nil, Option.some.injEq, exists_eq_left']
              simp only [isLap, hne, Bool.not_false, Bool.true_and] at bad
              simp only [b_l_is_plan_6, wS, sem, Sm.val, Sm.tst, Sm.arg, Sm.itr, boolOf, truthOf, gT, gTs, zip_tup, seq_lst, seq_tup, lst_lst, Co.sem, oInt, Bo.sem, oAdd, oSub, oMul, oDiv, oMod, Bf.sem, oLen, oAbs, oInt1, oGcd, oNeg, oIx, Mt.sem, List.getElem?_cons_zero, List.getElem?_cons_succ, List.set_cons_zero, List.set_cons_succ, setAll, frz_lst, frz_dct, tru_bl, tru_int, oEq_int, oEq_str, Bool.false_bne, Bool.true_bne, if_true, if_false, Bool.false_eq_true, reduceIte, Bool.not_true, Bool.not_false, List.cons.injEq, true_and, and_true, List.length_cons, List.length_nil, Option.some.injEq, exists_eq_left']
              refine ⟨.tup ps, at_head, ?_⟩
              simp only [seq_tup]
              refine wFor_by (fun j e s => s = s' ∧ (∃ c, e = [some (.tup us), some (.int m), some (.int (i : Nat)), some (.tup [.tup ps, n]), c, none, none]) ∧ (ps.take j).all (isStep m) = true) (fun _ _ _ _ => trivial) ?_ ?_ ⟨rfl, ⟨_, rfl⟩, rfl⟩
              · rintro j q e s2 C2 hq ⟨rfl, ⟨c, rfl⟩, hj⟩ hC2
                show wS b_l_is_plan_5 G _ _ _
                refine w_pstep h1 (dp q (List.mem_of_getElem? hq)) (fun hb => ?_) fun hg => ?_
                · exact bad (by rw [not_all hq hb, Bool.false_and])
                · exact hC2 _ _ ⟨rfl, ⟨_, rfl⟩, take_all hq hj hg⟩
              · rintro e s2 ⟨rfl, ⟨c, rfl⟩, hs⟩
                rw [List.take_length] at hs
                rw [hs, Bool.true_and] at bad
                have good : isN (decide (i + 1 = us.length)) ps n = true → C [some (.tup us), some (.int m), some (.int (i : Nat)), some (.tup [.tup ps, n]), c, none, none] s2 := fun hn => hC _ _ ⟨rfl, ⟨_, _, _, rfl⟩, fun j w hj hw => by
                  by_cases e : j = i
                  · subst e
                    rw [hu] at hw
                    obtain rfl := Option.some.inj hw
                    simp only [isLap, hne, hs, hn]; rfl
                  · exact hall j w (by omega) hw⟩
                simp only [b_l_is_plan_2, wS, sem, Sm.val, Sm.tst, Sm.arg, Sm.itr, boolOf, truthOf, gT, gTs, zip_tup, seq_lst, seq_tup, lst_lst, Co.sem, oInt, Bo.sem, oAdd, oSub, oMul, oDiv, oMod, Bf.sem, oLen, oAbs, oInt1, oGcd, oNeg, oIx, Mt.sem, List.getElem?_cons_zero, List.getElem?_cons_succ, List.set_cons_zero, List.set_cons_succ, setAll, frz_lst, frz_dct, tru_bl, tru_int, oEq_int, oEq_str, Bool.false_bne, Bool.true_bne, if_true, if_false, Bool.false_eq_true, reduceIte, Bool.not_true, Bool.not_false, List.cons.injEq, true_and, and_true, List.length_cons, List.length_nil, Option.some.injEq, exists_eq_left']
                refine ⟨n, rfl, ?_⟩
                cases n with
                | non =>
                  simp only [oIsN, isNon, wS, sem, Sm.val, Sm.tst, Sm.arg, Sm.itr, boolOf, truthOf, gT, gTs, zip_tup, seq_lst, seq_tup, lst_lst, Co.sem, oInt, Bo.sem, oAdd, oSub, oMul, oDiv, oMod, Bf.sem, oLen, oAbs, oInt1, oGcd, oNeg, oIx, Mt.sem, List.getElem?_cons_zero, List.getElem?_cons_succ, List.set_cons_zero, List.set_cons_succ, setAll, frz_lst, frz_dct, tru_bl, tru_int, oEq_int, oEq_str, Bool.false_bne, Bool.true_bne, if_true, if_false, Bool.false_eq_true, reduceIte, Bool.not_true, Bool.not_false, List.cons.injEq, true_and, and_true, List.length_cons, List.length_nil, Option.some.injEq, exists_eq_left']
                  have ei : (((i : Nat) : Int) + 1 < (us.length : Int)) = (i + 1 < us.length) := by rw [eq_iff_iff]; omega
                  simp only [ei]
                  by_cases hlast : i + 1 < us.length
                  · have e2 : decide (i + 1 = us.length) = false := decide_eq_false (by omega)
                    simp only [hlast, decide_true, wS, sem, Sm.val, Sm.tst, Sm.arg, Sm.itr, boolOf, truthOf, gT, gTs, zip_tup, seq_lst, seq_tup, lst_lst, Co.sem, oInt, Bo.sem, oAdd, oSub, oMul, oDiv, oMod, Bf.sem, oLen, oAbs, oInt1, oGcd, oNeg, oIx, Mt.sem, List.getElem?_cons_zero, List.getElem?_cons_succ, List.set_cons_zero, List.set_cons_succ, setAll, frz_lst, frz_dct, tru_bl, tru_int, oEq_int, oEq_str, Bool.false_bne, Bool.true_bne, if_true, if_false, Bool.false_eq_true, reduceIte, Bool.not_true, Bool.not_false, List.cons.injEq, true_and, and_true, List.length_cons, List.length_nil, Option.some.injEq, exists_eq_left']
                    exact bad (by simp [isN, e2])
                  · have e2 : decide (i + 1 = us.length) = true := decide_eq_true (by omega)
                    rw [e2] at good bad
                    simp only [isN, Bool.true_and] at good bad
                    obtain ⟨qs, rfl, hq⟩ := steps_tame hs dp
                    have lq : qs.length ≤ 45 := by simpa using lp
                    simp only [hlast, decide_false, wS, sem, Sm.val, Sm.tst, Sm.arg, Sm.itr, boolOf, truthOf, gT, gTs, zip_tup, seq_lst, seq_tup, lst_lst, Co.sem, oInt, Bo.sem, oAdd, oSub, oMul, oDiv, oMod, Bf.sem, oLen, oAbs, oInt1, oGcd, oNeg, oIx, Mt.sem, List.getElem?_cons_zero, List.getElem?_cons_succ, List.set_cons_zero, List.set_cons_succ, setAll, frz_lst, frz_dct, tru_bl, tru_int, oEq_int, oEq_str, Bool.false_bne, Bool.true_bne, if_true, if_false, Bool.false_eq_true, reduceIte, Bool.not_true, Bool.not_false, List.cons.injEq, true_and, and_true, List.length_cons, List.length_nil, Option.some.injEq, exists_eq_left', h0]
                    refine ⟨_, at_head, ?_⟩
                    simp only [seq_tup]
                    refine wLc_of stT (fun p : St => rT p.2) trivial (by simp; exact Nat.le_trans lq (by decide)) ?_ fun _ => ?_
                    · rintro ⟨x, q⟩ _ C3 hC3
                      show gT _ (.tup [.int x, rT q]) _ _ _
                      simp only [wS, sem, Sm.val, Sm.tst, Sm.arg, Sm.itr, boolOf, truthOf, gT, gTs, zip_tup, seq_lst, seq_tup, lst_lst, Co.sem, oInt, Bo.sem, oAdd, oSub, oMul, oDiv, oMod, Bf.sem, oLen, oAbs, oInt1, oGcd, oNeg, oIx, Mt.sem, List.getElem?_cons_zero, List.getElem?_cons_succ, List.set_cons_zero, List.set_cons_succ, setAll, frz_lst, frz_dct, tru_bl, tru_int, oEq_int, oEq_str, Bool.false_bne, Bool.true_bne, if_true, if_false, Bool.false_eq_true, reduceIte, Bool.not_true, Bool.not_false, List.cons.injEq, true_and, and_true, List.length_cons, List.length_nil, Option.some.injEq, exists_eq_left', wipeE, List.map_cons, List.map_nil]
                      exact hC3
                    · simp only [List.nil_append]
                      have tz : (qs.map stT).any tmNz = !decide (sumR (qs.map (·.2)) = 0) := by
                        rw [Bool.eq_iff_iff, List.any_eq_true, Bool.not_eq_true', decide_eq_false_iff_not, (sum_zero (xs := qs.map (·.2)) fun x hx => ?_).2]
                        · constructor
                          · rintro ⟨x, hx, hn⟩ hall0
                            obtain ⟨p, hp2, rfl⟩ := List.mem_map.mp hx
                            rw [tmNz_st, decide_eq_true_eq] at hn
                            exact hn (hall0 _ (List.mem_map.mpr ⟨p, hp2, rfl⟩))
                          · intro hne0
                            refine Classical.byContradiction fun hno => hne0 fun x hx => ?_
                            obtain ⟨p, hp2, rfl⟩ := List.mem_map.mp hx
                            refine Classical.byContradiction fun hx0 => hno ⟨stT p, List.mem_map.mpr ⟨p, hp2, rfl⟩, ?_⟩
                            rw [tmNz_st, decide_eq_true_eq]
                            exact hx0
                        · obtain ⟨p, hp2, rfl⟩ := List.mem_map.mp hx
                          exact (hq p hp2).1
                      rw [tz] at good bad
                      refine ⟨qs.map (·.2), 60, by rw [List.map_map]; rfl, fun x hx => ?_, by omega, by rw [List.length_map]; omega, ?_⟩
                      · obtain ⟨p, hp2, rfl⟩ := List.mem_map.mp hx
                        exact (hq p hp2).2
                      · refine ⟨by decide, ?_⟩
                        show oEq false (rT _) (rT 0) _ _
                        refine oEq_rT ?_
                        simp only [wS, sem, Sm.val, Sm.tst, Sm.arg, Sm.itr, boolOf, truthOf, gT, gTs, zip_tup, seq_lst, seq_tup, lst_lst, Co.sem, oInt, Bo.sem, oAdd, oSub, oMul, oDiv, oMod, Bf.sem, oLen, oAbs, oInt1, oGcd, oNeg, oIx, Mt.sem, List.getElem?_cons_zero, List.getElem?_cons_succ, List.set_cons_zero, List.set_cons_succ, setAll, frz_lst, frz_dct, tru_bl, tru_int, oEq_int, oEq_str, Bool.false_bne, Bool.true_bne, if_true, if_false, Bool.false_eq_true, reduceIte, Bool.not_true, Bool.not_false, List.cons.injEq, true_and, and_true, List.length_cons, List.length_nil, Option.some.injEq, exists_eq_left']
                        by_cases hz : sumR (qs.map (·.2)) = 0
                        · simp only [hz, decide_true, wS, sem, Sm.val, Sm.tst, Sm.arg, Sm.itr, boolOf, truthOf, gT, gTs, zip_tup, seq_lst, seq_tup, lst_lst, Co.sem, oInt, Bo.sem, oAdd, oSub, oMul, oDiv, oMod, Bf.sem, oLen, oAbs, oInt1, oGcd, oNeg, oIx, Mt.sem, List.getElem?_cons_zero, List.getElem?_cons_succ, List.set_cons_zero, List.set_cons_succ, setAll, frz_lst, frz_dct, tru_bl, tru_int, oEq_int, oEq_str, Bool.false_bne, Bool.true_bne, if_true, if_false, Bool.false_eq_true, reduceIte, Bool.not_true, Bool.not_false, List.cons.injEq, true_and, and_true, List.length_cons, List.length_nil, Option.some.injEq, exists_eq_left'] at bad ⊢
                          exact bad trivial
                        · simp only [hz, decide_false, wS, sem, Sm.val, Sm.tst, Sm.arg, Sm.itr, boolOf, truthOf, gT, gTs, zip_tup, seq_lst, seq_tup, lst_lst, Co.sem, oInt, Bo.sem, oAdd, oSub, oMul, oDiv, oMod, Bf.sem, oLen, oAbs, oInt1, oGcd, oNeg, oIx, Mt.sem, List.getElem?_cons_zero, List.getElem?_cons_succ, List.set_cons_zero, List.set_cons_succ, setAll, frz_lst, frz_dct, tru_bl, tru_int, oEq_int, oEq_str, Bool.false_bne, Bool.true_bne, if_true, if_false, Bool.false_eq_true, reduceIte, Bool.not_true, Bool.not_false, List.cons.injEq, true_and, and_true, List.length_cons, List.length_nil, Option.some.injEq, exists_eq_left'] at good ⊢
                          simp only [b_l_is_plan_1, wS, sem, Sm.val, Sm.tst, Sm.arg, Sm.itr, boolOf, truthOf, gT, gTs, zip_tup, seq_lst, seq_tup, lst_lst, Co.sem, oInt, Bo.sem, oAdd, oSub, oMul, oDiv, oMod, Bf.sem, oLen, oAbs, oInt1, oGcd, oNeg, oIx, Mt.sem, List.getElem?_cons_zero, List.getElem?_cons_succ, List.set_cons_zero, List.set_cons_succ, setAll, frz_lst, frz_dct, tru_bl, tru_int, oEq_int, oEq_str, Bool.false_bne, Bool.true_bne, if_true, if_false, Bool.false_eq_true, reduceIte, Bool.not_true, Bool.not_false, List.cons.injEq, true_and, and_true, List.length_cons, List.length_nil, Option.some.injEq, exists_eq_left']
                          refine ⟨.non, rfl, ?_⟩
                          simp only [oIsN, isNon, wS, sem, Sm.val, Sm.tst, Sm.arg, Sm.itr, boolOf, truthOf, gT, gTs, zip_tup, seq_lst, seq_tup, lst_lst, Co.sem, oInt, Bo.sem, oAdd, oSub, oMul, oDiv, oMod, Bf.sem, oLen, oAbs, oInt1, oGcd, oNeg, oIx, Mt.sem, List.getElem?_cons_zero, List.getElem?_cons_succ, List.set_cons_zero, List.set_cons_succ, setAll, frz_lst, frz_dct, tru_bl, tru_int, oEq_int, oEq_str, Bool.false_bne, Bool.true_bne, if_true, if_false, Bool.false_eq_true, reduceIte, Bool.not_true, Bool.not_false, List.cons.injEq, true_and, and_true, List.length_cons, List.length_nil, Option.some.injEq, exists_eq_left']
                          exact good trivial
                | int v =>
                  simp only [oIsN, isNon, wS, sem, Sm.val, Sm.tst, Sm.arg, Sm.itr, boolOf, truthOf, gT, gTs, zip_tup, seq_lst, seq_tup, lst_lst, Co.sem, oInt, Bo.sem, oAdd, oSub, oMul, oDiv, oMod, Bf.sem, oLen, oAbs, oInt1, oGcd, oNeg, oIx, Mt.sem, List.getElem?_cons_zero, List.getElem?_cons_succ, List.set_cons_zero, List.set_cons_succ, setAll, frz_lst, frz_dct, tru_bl, tru_int, oEq_int, oEq_str, Bool.false_bne, Bool.true_bne, if_true, if_false, Bool.false_eq_true, reduceIte, Bool.not_true, Bool.not_false, List.cons.injEq, true_and, and_true, List.length_cons, List.length_nil, Option.some.injEq, exists_eq_left']
                  simp only [b_l_is_plan_1, wS, sem, Sm.val, Sm.tst, Sm.arg, Sm.itr, boolOf, truthOf, gT, gTs, zip_tup, seq_lst, seq_tup, lst_lst, Co.sem, oInt, Bo.sem, oAdd, oSub, oMul, oDiv, oMod, Bf.sem, oLen, oAbs, oInt1, oGcd, oNeg, oIx, Mt.sem, List.getElem?_cons_zero, List.getElem?_cons_succ, List.set_cons_zero, List.set_cons_succ, setAll, frz_lst, frz_dct, tru_bl, tru_int, oEq_int, oEq_str, Bool.false_bne, Bool.true_bne, if_true, if_false, Bool.false_eq_true, reduceIte, Bool.not_true, Bool.not_false, List.cons.injEq, true_and, and_true, List.length_cons, List.length_nil, Option.some.injEq, exists_eq_left']
                  refine ⟨.int v, rfl, ?_⟩
                  simp only [oIsN, isNon, wS, sem, Sm.val, Sm.tst, Sm.arg, Sm.itr, boolOf, truthOf, gT, gTs, zip_tup, seq_lst, seq_tup, lst_lst, Co.sem, oInt, Bo.sem, oAdd, oSub, oMul, oDiv, oMod, Bf.sem, oLen, oAbs, oInt1, oGcd, oNeg, oIx, Mt.sem, List.getElem?_cons_zero, List.getElem?_cons_succ, List.set_cons_zero, List.set_cons_succ, setAll, frz_lst, frz_dct, tru_bl, tru_int, oEq_int, oEq_str, Bool.false_bne, Bool.true_bne, if_true, if_false, Bool.false_eq_true, reduceIte, Bool.not_true, Bool.not_false, List.cons.injEq, true_and, and_true, List.length_cons, List.length_nil, Option.some.injEq, exists_eq_left']
                  refine ⟨.int v, rfl, ?_⟩
                  have e1 : (kind (T.int v)).sub .bool = false := rfl
                  have e2 : (kind (T.int v)).sub .int = true := rfl
                  simp only [oIsi_plain pn, e1, wS, sem, Sm.val, Sm.tst, Sm.arg, Sm.itr, boolOf, truthOf, gT, gTs, zip_tup, seq_lst, seq_tup, lst_lst, Co.sem, oInt, Bo.sem, oAdd, oSub, oMul, oDiv, oMod, Bf.sem, oLen, oAbs, oInt1, oGcd, oNeg, oIx, Mt.sem, List.getElem?_cons_zero, List.getElem?_cons_succ, List.set_cons_zero, List.set_cons_succ, setAll, frz_lst, frz_dct, tru_bl, tru_int, oEq_int, oEq_str, Bool.false_bne, Bool.true_bne, if_true, if_false, Bool.false_eq_true, reduceIte, Bool.not_true, Bool.not_false, List.cons.injEq, true_and, and_true, List.length_cons, List.length_nil, Option.some.injEq, exists_eq_left']
                  refine ⟨.int v, rfl, ?_⟩
                  simp only [oIsi_plain pn, e2, wS, sem, Sm.val, Sm.tst, Sm.arg, Sm.itr, boolOf, truthOf, gT, gTs, zip_tup, seq_lst, seq_tup, lst_lst, Co.sem, oInt, Bo.sem, oAdd, oSub, oMul, oDiv, oMod, Bf.sem, oLen, oAbs, oInt1, oGcd, oNeg, oIx, Mt.sem, List.getElem?_cons_zero, List.getElem?_cons_succ, List.set_cons_zero, List.set_cons_succ, setAll, frz_lst, frz_dct, tru_bl, tru_int, oEq_int, oEq_str, Bool.false_bne, Bool.true_bne, if_true, if_false, Bool.false_eq_true, reduceIte, Bool.not_true, Bool.not_false, List.cons.injEq, true_and, and_true, List.length_cons, List.length_nil, Option.some.injEq, exists_eq_left']
                  refine ⟨.int v, rfl, ?_⟩
                  simp only [isN] at good bad
                  by_cases hv : v < 1
                  · simp only [hv, decide_true, wS, sem, Sm.val, Sm.tst, Sm.arg, Sm.itr, boolOf, truthOf, gT, gTs, zip_tup, seq_lst, seq_tup, lst_lst, Co.sem, oInt, Bo.sem, oAdd, oSub, oMul, oDiv, oMod, Bf.sem, oLen, oAbs, oInt1, oGcd, oNeg, oIx, Mt.sem, List.getElem?_cons_zero, List.getElem?_cons_succ, List.set_cons_zero, List.set_cons_succ, setAll, frz_lst, frz_dct, tru_bl, tru_int, oEq_int, oEq_str, Bool.false_bne, Bool.true_bne, if_true, if_false, Bool.false_eq_true, reduceIte, Bool.not_true, Bool.not_false, List.cons.injEq, true_and, and_true, List.length_cons, List.length_nil, Option.some.injEq, exists_eq_left']
                    exact bad (decide_eq_false (by omega))
                  · simp only [hv, decide_false, wS, sem, Sm.val, Sm.tst, Sm.arg, Sm.itr, boolOf, truthOf, gT, gTs, zip_tup, seq_lst, seq_tup, lst_lst, Co.sem, oInt, Bo.sem, oAdd, oSub, oMul, oDiv, oMod, Bf.sem, oLen, oAbs, oInt1, oGcd, oNeg, oIx, Mt.sem, List.getElem?_cons_zero, List.getElem?_cons_succ, List.set_cons_zero, List.set_cons_succ, setAll, frz_lst, frz_dct, tru_bl, tru_int, oEq_int, oEq_str, Bool.false_bne, Bool.true_bne, if_true, if_false, Bool.false_eq_true, reduceIte, Bool.not_true, Bool.not_false, List.cons.injEq, true_and, and_true, List.length_cons, List.length_nil, Option.some.injEq, exists_eq_left']
                    exact good (decide_eq_true (by omega))
                | _ =>
                  first
                  | (exfalso; revert pn; decide)
                  | (simp only [oIsN, isNon, wS, sem, Sm.val, Sm.tst, Sm.arg, Sm.itr, boolOf, truthOf, gT, gTs, zip_tup, seq_lst, seq_tup, lst_lst, Co.sem, oInt, Bo.sem, oAdd, oSub, oMul, oDiv, oMod, Bf.sem, oLen, oAbs, oInt1, oGcd, oNeg, oIx, Mt.sem, List.getElem?_cons_zero, List.getElem?_cons_succ, List.set_cons_zero, List.set_cons_succ, setAll, frz_lst, frz_dct, tru_bl, tru_int, oEq_int, oEq_str, Bool.false_bne, Bool.true_bne, if_true, if_false, Bool.false_eq_true, reduceIte, Bool.not_true, Bool.not_false, List.cons.injEq, true_and, and_true, List.length_cons, List.length_nil, Option.some.injEq, exists_eq_left']
                     simp only [b_l_is_plan_1, wS, sem, Sm.val, Sm.tst, Sm.arg, Sm.itr, boolOf, truthOf, gT, gTs, zip_tup, seq_lst, seq_tup, lst_lst, Co.sem, oInt, Bo.sem, oAdd, oSub, oMul, oDiv, oMod, Bf.sem, oLen, oAbs, oInt1, oGcd, oNeg, oIx, Mt.sem, List.getElem?_cons_zero, List.getElem?_cons_succ, List.set_cons_zero, List.set_cons_succ, setAll, frz_lst, frz_dct, tru_bl, tru_int, oEq_int, oEq_str, Bool.false_bne, Bool.true_bne, if_true, if_false, Bool.false_eq_true, reduceIte, Bool.not_true, Bool.not_false, List.cons.injEq, true_and, and_true, List.length_cons, List.length_nil, Option.some.injEq, exists_eq_left']
                     refine ⟨_, rfl, ?_⟩
                     simp only [oIsN, isNon, wS, sem, Sm.val, Sm.tst, Sm.arg, Sm.itr, boolOf, truthOf, gT, gTs, zip_tup, seq_lst, seq_tup, lst_lst, Co.sem, oInt, Bo.sem, oAdd, oSub, oMul, oDiv, oMod, Bf.sem, oLen, oAbs, oInt1, oGcd, oNeg, oIx, Mt.sem, List.getElem?_cons_zero, List.getElem?_cons_succ, List.set_cons_zero, List.set_cons_succ, setAll, frz_lst, frz_dct, tru_bl, tru_int, oEq_int, oEq_str, Bool.false_bne, Bool.true_bne, if_true, if_false, Bool.false_eq_true, reduceIte, Bool.not_true, Bool.not_false, List.cons.injEq, true_and, and_true, List.length_cons, List.length_nil, Option.some.injEq, exists_eq_left']
                     refine ⟨_, rfl, ?_⟩
                     simp only [oIsi_plain pn]
                     first
                     | exact bad rfl
                     | (show ∃ t, _ ∧ _
                        refine ⟨_, rfl, ?_⟩
                        simp only [oIsi_plain pn]
                        exact bad rfl))
          | _ => exact bad rfl
        | [], _, bad, _ => exact bad rfl
        | [_], _, bad, _ => exact bad (isLap_flat (by intro ps n e; cases e))
        | _ :: _ :: _ :: r, _, bad, _ =>
          have : ¬ (((r.length + 1 + 1 + 1 : Nat) : Int) = 2) := by omega
          simp only [List.length_cons, this, decide_false, wS, sem, Sm.val, Sm.tst, Sm.arg, Sm.itr, boolOf, truthOf, gT, gTs, zip_tup, seq_lst, seq_tup, lst_lst, Co.sem, oInt, Bo.sem, oAdd, oSub, oMul, oDiv, oMod, Bf.sem, oLen, oAbs, oInt1, oGcd, oNeg, oIx, Mt.sem, List.getElem?_cons_zero, List.getElem?_cons_succ, List.set_cons_zero, List.set_cons_succ, setAll, frz_lst, frz_dct, tru_bl, tru_int, oEq_int, oEq_str, Bool.false_bne, Bool.true_bne, if_true, if_false, Bool.false_eq_true, reduceIte, Bool.not_true, Bool.not_false, List.cons.injEq, true_and, and_true, List.length_cons, List.length_nil, Option.some.injEq, exists_eq_left']
          exact bad (isLap_flat (by intro ps n e; cases e))
      | _ => exact bad rfl
    · rintro e s' ⟨rfl, ⟨a, b, c, rfl⟩, hall⟩
      simp only [b_l_is_plan_0, wS, sem, Sm.val, Sm.tst, Sm.arg, Sm.itr, boolOf, truthOf, gT, gTs, zip_tup, seq_lst, seq_tup, lst_lst, Co.sem, oInt, Bo.sem, oAdd, oSub, oMul, oDiv, oMod, Bf.sem, oLen, oAbs, oInt1, oGcd, oNeg, oIx, Mt.sem, List.getElem?_cons_zero, List.getElem?_cons_succ, List.set_cons_zero, List.set_cons_succ, setAll, frz_lst, frz_dct, tru_bl, tru_int, oEq_int, oEq_str, Bool.false_bne, Bool.true_bne, if_true, if_false, Bool.false_eq_true, reduceIte, Bool.not_true, Bool.not_false, List.cons.injEq, true_and, and_true, List.length_cons, List.length_nil, Option.some.injEq, exists_eq_left']
      have e : isPlan m (.tup us) = true := by
        refine all_idx.mpr fun i u hu => hall i u ?_ hu
        have := (List.getElem?_eq_some_iff.mp hu).1
        simpa using this
      rw [e] at k
      exact k
  | _ => exact k
end TG

set_option maxHeartbeats 4000000
namespace TG
open PySem PySem.Spec PyProof.Rows L2 TP

/-! ### drawn plans -/
abbrev Lap := List St × Option Int
def lapN : Option Int → T
  | some n => .int n
  | none => .non
def lapT (l : Lap) : T := .tup [stepsT l.1, lapN l.2]
def planT (ls : List Lap) : T := .tup (ls.map lapT)
def StepsP (m : Int) (ps : List St) : Prop := 1 ≤ ps.length ∧ ps.length ≤ 4 ∧ ∀ p ∈ ps, StepP m p
def timeR (ps : List St) : Rat := sumR (ps.map (·.2))
def LapP (m : Int) (l : Lap) : Prop := StepsP m l.1 ∧ ∃ n, l.2 = some n ∧ 1 ≤ n ∧ n ≤ 7
def PlanP (m : Int) (ls : List Lap) : Prop := ∃ fs last, ls = fs ++ last ∧ fs.length ≤ 3 ∧ (∀ l ∈ fs, LapP m l) ∧ (last = [] ∨ ∃ ps, last = [(ps, none)] ∧ StepsP m ps ∧ timeR ps ≠ 0)
theorem PlanP.len {m : Int} {ls : List Lap} (h : PlanP m ls) : ls.length ≤ 4 := by
  obtain ⟨fs, last, rfl, l, _, rfl | ⟨ps, rfl, _⟩⟩ := h <;> simp <;> omega
theorem PlanP.steps {m : Int} {ls : List Lap} (h : PlanP m ls) : ∀ l ∈ ls, StepsP m l.1 ∧ ∀ n, l.2 = some n → 1 ≤ n ∧ n ≤ 7 := by
  obtain ⟨fs, last, rfl, _, hf, hl⟩ := h
  intro l hm
  rcases List.mem_append.mp hm with hm | hm
  · obtain ⟨a, n, e, b, c⟩ := hf l hm
    exact ⟨a, fun k ek => by rw [e] at ek; obtain rfl := Option.some.inj ek; exact ⟨b, c⟩⟩
  · rcases hl with rfl | ⟨ps, rfl, a, _⟩
    · cases hm
    · obtain rfl := List.mem_singleton.mp hm
      exact ⟨a, fun k ek => by cases ek⟩
theorem step_ok {m : Int} {p : St} (h : StepP m p) : isStep m (stT p) = true := by
  obtain ⟨a, b, c, _⟩ := h
  rw [isStep_st, decide_eq_true a, decide_eq_true b, decide_eq_true c]; rfl
theorem steps_ok {m : Int} {ps : List St} (h : StepsP m ps) : (ps.map stT).isEmpty = false ∧ (ps.map stT).all (isStep m) = true := by
  obtain ⟨a, _, c⟩ := h
  refine ⟨?_, ?_⟩
  · cases ps <;> simp at a ⊢
  · rw [List.all_map]
    exact List.all_eq_true.mpr fun p hp => step_ok (c p hp)
theorem any_nz {ps : List St} (h : ∀ p ∈ ps, 0 ≤ p.2) : (ps.map stT).any tmNz = !decide (timeR ps = 0) := by
  rw [Bool.eq_iff_iff, List.any_eq_true, Bool.not_eq_true', decide_eq_false_iff_not]
  unfold timeR
  rw [(sum_zero (xs := ps.map (·.2)) fun x hx => ?_).2]
  · constructor
    · rintro ⟨x, hx, hn⟩ hall0
      obtain ⟨p, hp2, rfl⟩ := List.mem_map.mp hx
      rw [tmNz_st, decide_eq_true_eq] at hn
      exact hn (hall0 _ (List.mem_map.mpr ⟨p, hp2, rfl⟩))
    · intro hne0
      refine Classical.byContradiction fun hno => hne0 fun x hx => ?_
      obtain ⟨p, hp2, rfl⟩ := List.mem_map.mp hx
      refine Classical.byContradiction fun hx0 => hno ⟨stT p, List.mem_map.mpr ⟨p, hp2, rfl⟩, ?_⟩
      rw [tmNz_st, decide_eq_true_eq]
      exact hx0
  · obtain ⟨p, hp2, rfl⟩ := List.mem_map.mp hx
    exact h p hp2
theorem plan_ok {m : Int} {ls : List Lap} (h : PlanP m ls) : isPlan m (planT ls) = true := by
  obtain ⟨fs, last, rfl, _, hf, hl⟩ := h
  refine all_idx.mpr fun i u hu => ?_
  rw [List.getElem?_map] at hu
  obtain ⟨l, hi, rfl⟩ := Option.map_eq_some_iff.mp hu
  by_cases c : i < fs.length
  · rw [List.getElem?_append_left c] at hi
    obtain ⟨hs, n, e, n1, _⟩ := hf l (List.mem_of_getElem? hi)
    obtain ⟨a, b⟩ := steps_ok hs
    show (!(l.1.map stT).isEmpty && (l.1.map stT).all (isStep m) && isN _ (l.1.map stT) (lapN l.2)) = true
    rw [a, b, e]
    simp only [lapN, isN, decide_eq_true n1]; rfl
  · rw [List.getElem?_append_right (by omega)] at hi
    rcases hl with rfl | ⟨ps, rfl, hs, nz⟩
    · simp at hi
    · have e : i - fs.length = 0 := by
        have := (List.getElem?_eq_some_iff.mp hi).1
        simp at this; omega
      rw [e] at hi
      obtain rfl := Option.some.inj hi
      obtain ⟨a, b⟩ := steps_ok hs
      show (!(ps.map stT).isEmpty && (ps.map stT).all (isStep m) && isN _ (ps.map stT) .non) = true
      rw [a, b]
      simp only [isN, any_nz fun p hp => (hs.2.2 p hp).2.2.1, decide_eq_false nz, List.length_map, List.length_append, List.length_cons, List.length_nil]
      rw [decide_eq_true (by omega)]; rfl
theorem gd_rT {q : Rat} (h : Sz 60 q) : Gd 1 3849 (rT q) := by
  refine ⟨sh_rat h (by omega), ?_⟩
  have h1 := h.1
  have h2 : q.den < 2 ^ 60 := h.2
  refine tame_mk (by simp) fun u hu => ?_
  simp only [List.mem_cons, List.not_mem_nil, or_false] at hu
  rcases hu with rfl | rfl
  · exact decide_eq_true h1
  · refine decide_eq_true ?_
    rw [Int.natAbs_natCast]; exact h2
theorem time_sz {q : Rat} (h : TimeP q) : Sz 3 q := small_sz h.2 (by omega) (by omega)
theorem gd_step {m : Int} (hm : m ≤ 20) {p : St} (h : StepP m p) : Gd 2 7705 (stT p) := by
  obtain ⟨a, b, c⟩ := h
  refine (gd_tup (k := 1) (m := 3849) (fun t ht => ?_) (by simp)).up (Nat.le_refl _) (by simp)
  simp only [List.mem_cons, List.not_mem_nil, or_false] at ht
  rcases ht with rfl | rfl
  · exact (gd_int (by omega)).up (by omega) (by omega)
  · exact gd_rT ((time_sz c).up (by omega))
theorem gd_steps {m : Int} (hm : m ≤ 20) {ps : List St} (h : StepsP m ps) : Gd 3 30831 (stepsT ps) := by
  have l := h.2.1
  refine (gd_tup (k := 2) (m := 7705) (ts := ps.map stT) (fun t ht => ?_) (by rw [List.length_map]; omega)).up (Nat.le_refl _) (by rw [List.length_map]; omega)
  obtain ⟨p, hp, rfl⟩ := List.mem_map.mp ht
  exact gd_step hm (h.2.2 p hp)
theorem gd_lap {m : Int} (hm : m ≤ 20) {l : Lap} (h : StepsP m l.1) (hn : ∀ n, l.2 = some n → n.natAbs < 2 ^ 60) : Gd 4 61669 (lapT l) := by
  refine (gd_tup (k := 3) (m := 30831) (fun t ht => ?_) (by simp)).up (Nat.le_refl _) (by simp)
  simp only [List.mem_cons, List.not_mem_nil, or_false] at ht
  rcases ht with rfl | rfl
  · exact gd_steps hm h
  · obtain ⟨ps, n⟩ := l
    cases n with
    | none => exact (show Gd 0 1921 .non from ⟨sh_ofK (by decide +kernel), by decide +kernel⟩).up (by omega) (by omega)
    | some n => exact (show Gd 0 1921 (.int n) from gd_int (hn n rfl)).up (by omega) (by omega)
theorem PlanP.gd {m : Int} (hm : m ≤ 20) {ls : List Lap} (h : PlanP m ls) : ∀ u ∈ ls.map lapT, Gd 4 61669 u := fun u hu => by
  obtain ⟨l, hl, rfl⟩ := List.mem_map.mp hu
  obtain ⟨a, b⟩ := h.steps l hl
  exact gd_lap hm a fun n e => by have := b n e; omega
def spDrawPlan : TSp := fun ts S R X => ∃ s c, ∃ m : Int, ts = [.ref s, .int m] ∧ 1 ≤ m ∧ m ≤ 20 ∧ IsSrc S s c ∧ ∀ (ls : List Lap) S', PlanP m ls → IsSrc S' s c → Kept S S' s c → R (planT ls) S'
theorem oLst {us : List T} {j : Int} {S : Sto} {R : RP} : oIx (.lst us) (.int j) S R = ∃ t, atT us j = some t ∧ R t S := rfl
theorem w_drawPlan (G : Gx) (N : List Str) (hN : N.length = 7) {x0 : Str} (h0 : G.fns[0]? = some (x0, spAll)) {x2 : Str} (h2 : G.fns[2]? = some (x2, spDrawSteps)) {x1 : Str} (h1 : G.fns[1]? = some (x1, spPick)) (ts : List T) (S : Sto) (R : RP) (X : XP) (h : spDrawPlan ts S R X) : ts.length = 2 ∧ wS b_l_draw_plan G (startE N ts) S { nx := fun _ S' => R .non S', rt := R, xx := fun _ => X } := by
  obtain ⟨s, c, m, rfl, m1, m2, hs, k⟩ := h
  refine ⟨rfl, ?_⟩
  unfold startE
  rw [hN]
  show wS b_l_draw_plan G [some (.ref s), some (.int m), none, none, none, none, none] S _
  simp only [b_l_draw_plan, b_l_draw_plan_6, wS, sem, Sm.val, Sm.tst, Sm.arg, Sm.itr, boolOf, truthOf, gT, gTs, zip_tup, seq_lst, seq_tup, lst_lst, Co.sem, oInt, Bo.sem, oAdd, oSub, oMul, oDiv, oMod, Bf.sem, oLen, oAbs, oInt1, oGcd, oNeg, oIx, Mt.sem, List.getElem?_cons_zero, List.getElem?_cons_succ, List.set_cons_zero, List.set_cons_succ, setAll, frz_lst, frz_dct, tru_bl, tru_int, oEq_int, oEq_str, Bool.false_bne, Bool.true_bne, if_true, if_false, Bool.false_eq_true, reduceIte, Bool.not_true, Bool.not_false, List.cons.injEq, true_and, and_true, List.length_cons, List.length_nil, Option.some.injEq, exists_eq_left']
  refine ⟨by decide, ?_⟩
  simp only [b_l_draw_plan_5, wS, sem, Sm.val, Sm.tst, Sm.arg, Sm.itr, boolOf, truthOf, gT, gTs, zip_tup, seq_lst, seq_tup, lst_lst, Co.sem, oInt, Bo.sem, oAdd, oSub, oMul, oDiv, oMod, Bf.sem, oLen, oAbs, oInt1, oGcd, oNeg, oIx, Mt.sem, List.getElem?_cons_zero, List.getElem?_cons_succ, List.set_cons_zero, List.set_cons_succ, setAll, frz_lst, frz_dct, tru_bl, tru_int, oEq_int, oEq_str, Bool.false_bne, Bool.true_bne, if_true, if_false, Bool.false_eq_true, reduceIte, Bool.not_true, Bool.not_false, List.cons.injEq, true_and, and_true, List.length_cons, List.length_nil, Option.some.injEq, exists_eq_left', h1]
  refine pick_of hs (by omega) (by omega) fun i S1 i1 i2 hs1 k1 => ?_
  simp only
  refine ⟨by omega, ?_⟩
  refine wFor_by (fun i e s' => IsSrc s' s c ∧ Kept S s' s c ∧ ∃ (fs : List Lap) (a : Option T), fs.length = i ∧ (∀ l ∈ fs, LapP m l) ∧ e = [some (.ref s), some (.int m), some (planT fs), a, none, none, none]) (fun _ _ _ _ => trivial) ?_ ?_ ⟨hs1, k1, [], none, rfl, by simp, rfl⟩
  · rintro i t e s' C ht ⟨hs2, k2, fs, a, rfl, hf, rfl⟩ hC
    have hi := (List.getElem?_eq_some_iff.mp ht).1
    simp only [List.length_map, List.length_range] at hi
    simp only [b_l_draw_plan_4, wS, sem, Sm.val, Sm.tst, Sm.arg, Sm.itr, boolOf, truthOf, gT, gTs, zip_tup, seq_lst, seq_tup, lst_lst, Co.sem, oInt, Bo.sem, oAdd, oSub, oMul, oDiv, oMod, Bf.sem, oLen, oAbs, oInt1, oGcd, oNeg, oIx, Mt.sem, List.getElem?_cons_zero, List.getElem?_cons_succ, List.set_cons_zero, List.set_cons_succ, setAll, frz_lst, frz_dct, tru_bl, tru_int, oEq_int, oEq_str, Bool.false_bne, Bool.true_bne, if_true, if_false, Bool.false_eq_true, reduceIte, Bool.not_true, Bool.not_false, List.cons.injEq, true_and, and_true, List.length_cons, List.length_nil, Option.some.injEq, exists_eq_left', h1, h2]
    refine ⟨s, c, m, 4, rfl, m1, m2, by omega, by omega, hs2, fun ps S3 l1 l2 hp hs3 k3 => ?_⟩
    refine ⟨by decide, fun _ => pick_of hs3 (by omega) (by omega) fun j S4 j1 j2 hs4 k4 => ?_⟩
    obtain ⟨t, f1, f2⟩ := at_in (us := [T.int 1, T.int 1, T.int 2, T.int 3, T.int 7]) j1 j2
    obtain ⟨n, rfl, n0, n1⟩ : ∃ n : Int, t = .int n ∧ 1 ≤ n ∧ n ≤ 7 := by
      simp only [List.mem_cons, List.not_mem_nil, or_false] at f2
      rcases f2 with rfl | rfl | rfl | rfl | rfl <;> exact ⟨_, rfl, by omega, by omega⟩
    refine ⟨_, f1, by decide, by decide, ?_⟩
    rw [show planT fs = T.tup (fs.map lapT) from rfl]
    simp only [List.length_map, List.length_cons, List.length_nil]
    refine ⟨Nat.le_trans (show fs.length + 1 ≤ 10 by omega) (by decide), ?_⟩
    refine hC _ _ ⟨hs4, k2.tr (k3.tr k4), fs ++ [(ps, some n)], some t, by simp, fun l hl => ?_, ?_⟩
    · rcases List.mem_append.mp hl with hl | hl
      · exact hf l hl
      · rw [List.mem_singleton.mp hl]
        exact ⟨⟨l1, show ps.length ≤ 4 by omega, hp⟩, n, rfl, n0, n1⟩
    · rw [show planT (fs ++ [(ps, some n)]) = T.tup (fs.map lapT ++ [T.tup [stepsT ps, T.int n]]) from by unfold planT; rw [List.map_append]; rfl]
  · rintro e s' ⟨hs2, k2, fs, a, lf, hf, rfl⟩
    simp only [List.length_map, List.length_range] at lf
    simp only [b_l_draw_plan_3, wS, sem, Sm.val, Sm.tst, Sm.arg, Sm.itr, boolOf, truthOf, gT, gTs, zip_tup, seq_lst, seq_tup, lst_lst, Co.sem, oInt, Bo.sem, oAdd, oSub, oMul, oDiv, oMod, Bf.sem, oLen, oAbs, oInt1, oGcd, oNeg, oIx, Mt.sem, List.getElem?_cons_zero, List.getElem?_cons_succ, List.set_cons_zero, List.set_cons_succ, setAll, frz_lst, frz_dct, tru_bl, tru_int, oEq_int, oEq_str, Bool.false_bne, Bool.true_bne, if_true, if_false, Bool.false_eq_true, reduceIte, Bool.not_true, Bool.not_false, List.cons.injEq, true_and, and_true, List.length_cons, List.length_nil, Option.some.injEq, exists_eq_left', h2]
    refine ⟨s, c, m, 3, rfl, m1, m2, by omega, by omega, hs2, fun ps S3 l1 l2 hp hs3 k3 => ?_⟩
    have hps : StepsP m ps := ⟨l1, by omega, hp⟩
    simp only [b_l_draw_plan_2, wS, sem, Sm.val, Sm.tst, Sm.arg, Sm.itr, boolOf, truthOf, gT, gTs, zip_tup, seq_lst, seq_tup, lst_lst, Co.sem, oInt, Bo.sem, oAdd, oSub, oMul, oDiv, oMod, Bf.sem, oLen, oAbs, oInt1, oGcd, oNeg, oIx, Mt.sem, List.getElem?_cons_zero, List.getElem?_cons_succ, List.set_cons_zero, List.set_cons_succ, setAll, frz_lst, frz_dct, tru_bl, tru_int, oEq_int, oEq_str, Bool.false_bne, Bool.true_bne, if_true, if_false, Bool.false_eq_true, reduceIte, Bool.not_true, Bool.not_false, List.cons.injEq, true_and, and_true, List.length_cons, List.length_nil, Option.some.injEq, exists_eq_left', h0, h1]
    refine pick_of hs3 (by omega) (by omega) fun j S4 j1 j2 hs4 k4 => ?_
    have fin : wS b_l_draw_plan_0 G [some (.ref s), some (.int m), some (planT fs), a, some (stepsT ps), none, none] S4 { nx := fun _ S' => R .non S', rt := R, xx := fun _ => X } := by
      simp only [b_l_draw_plan_0, wS, sem, Sm.val, Sm.tst, Sm.arg, Sm.itr, boolOf, truthOf, gT, gTs, zip_tup, seq_lst, seq_tup, lst_lst, Co.sem, oInt, Bo.sem, oAdd, oSub, oMul, oDiv, oMod, Bf.sem, oLen, oAbs, oInt1, oGcd, oNeg, oIx, Mt.sem, List.getElem?_cons_zero, List.getElem?_cons_succ, List.set_cons_zero, List.set_cons_succ, setAll, frz_lst, frz_dct, tru_bl, tru_int, oEq_int, oEq_str, Bool.false_bne, Bool.true_bne, if_true, if_false, Bool.false_eq_true, reduceIte, Bool.not_true, Bool.not_false, List.cons.injEq, true_and, and_true, List.length_cons, List.length_nil, Option.some.injEq, exists_eq_left']
      exact k fs S4 ⟨fs, [], by simp, by omega, hf, .inl rfl⟩ hs4 (k2.tr (k3.tr k4))
    simp only [wS, sem, Sm.val, Sm.tst, Sm.arg, Sm.itr, boolOf, truthOf, gT, gTs, zip_tup, seq_lst, seq_tup, lst_lst, Co.sem, oInt, Bo.sem, oAdd, oSub, oMul, oDiv, oMod, Bf.sem, oLen, oAbs, oInt1, oGcd, oNeg, oIx, Mt.sem, List.getElem?_cons_zero, List.getElem?_cons_succ, List.set_cons_zero, List.set_cons_succ, setAll, frz_lst, frz_dct, tru_bl, tru_int, oEq_int, oEq_str, Bool.false_bne, Bool.true_bne, if_true, if_false, Bool.false_eq_true, reduceIte, Bool.not_true, Bool.not_false, List.cons.injEq, true_and, and_true, List.length_cons, List.length_nil, Option.some.injEq, exists_eq_left']
    by_cases hj : j = 0
    · simp only [hj, decide_true, wS, sem, Sm.val, Sm.tst, Sm.arg, Sm.itr, boolOf, truthOf, gT, gTs, zip_tup, seq_lst, seq_tup, lst_lst, Co.sem, oInt, Bo.sem, oAdd, oSub, oMul, oDiv, oMod, Bf.sem, oLen, oAbs, oInt1, oGcd, oNeg, oIx, Mt.sem, List.getElem?_cons_zero, List.getElem?_cons_succ, List.set_cons_zero, List.set_cons_succ, setAll, frz_lst, frz_dct, tru_bl, tru_int, oEq_int, oEq_str, Bool.false_bne, Bool.true_bne, if_true, if_false, Bool.false_eq_true, reduceIte, Bool.not_true, Bool.not_false, List.cons.injEq, true_and, and_true, List.length_cons, List.length_nil, Option.some.injEq, exists_eq_left']
      show wLc _ _ _ _ _ _ (ps.map stT) _ _ _
      refine wLc_of stT (fun p : St => rT p.2) trivial (by simp; exact Nat.le_trans (show ps.length ≤ 4 by omega) (by decide)) ?_ fun _ => ?_
      · rintro ⟨x, q⟩ _ C3 hC3
        show gT _ (.tup [.int x, rT q]) _ _ _
        simp only [wS, sem, Sm.val, Sm.tst, Sm.arg, Sm.itr, boolOf, truthOf, gT, gTs, zip_tup, seq_lst, seq_tup, lst_lst, Co.sem, oInt, Bo.sem, oAdd, oSub, oMul, oDiv, oMod, Bf.sem, oLen, oAbs, oInt1, oGcd, oNeg, oIx, Mt.sem, List.getElem?_cons_zero, List.getElem?_cons_succ, List.set_cons_zero, List.set_cons_succ, setAll, frz_lst, frz_dct, tru_bl, tru_int, oEq_int, oEq_str, Bool.false_bne, Bool.true_bne, if_true, if_false, Bool.false_eq_true, reduceIte, Bool.not_true, Bool.not_false, List.cons.injEq, true_and, and_true, List.length_cons, List.length_nil, Option.some.injEq, exists_eq_left', wipeE, List.map_cons, List.map_nil]
        exact hC3
      · simp only [List.nil_append]
        refine ⟨ps.map (·.2), 3, by rw [List.map_map]; rfl, fun x hx => ?_, by omega, by rw [List.length_map]; omega, ?_⟩
        · obtain ⟨p, hp2, rfl⟩ := List.mem_map.mp hx
          exact time_sz (hp p hp2).2.2
        · refine ⟨by decide, ?_⟩
          show oEq true (rT _) (rT 0) _ _
          refine oEq_rT ?_
          by_cases hz : sumR (ps.map (·.2)) = 0
          · simp only [hz, decide_true, Bool.true_xor, Bool.not_true, wS, sem, Sm.val, Sm.tst, Sm.arg, Sm.itr, boolOf, truthOf, gT, gTs, zip_tup, seq_lst, seq_tup, lst_lst, Co.sem, oInt, Bo.sem, oAdd, oSub, oMul, oDiv, oMod, Bf.sem, oLen, oAbs, oInt1, oGcd, oNeg, oIx, Mt.sem, List.getElem?_cons_zero, List.getElem?_cons_succ, List.set_cons_zero, List.set_cons_succ, setAll, frz_lst, frz_dct, tru_bl, tru_int, oEq_int, oEq_str, Bool.false_bne, Bool.true_bne, if_true, if_false, Bool.false_eq_true, reduceIte, Bool.not_true, Bool.not_false, List.cons.injEq, true_and, and_true, List.length_cons, List.length_nil, Option.some.injEq, exists_eq_left']
            exact fin
          · simp only [hz, decide_false, Bool.true_xor, Bool.not_false, wS, sem, Sm.val, Sm.tst, Sm.arg, Sm.itr, boolOf, truthOf, gT, gTs, zip_tup, seq_lst, seq_tup, lst_lst, Co.sem, oInt, Bo.sem, oAdd, oSub, oMul, oDiv, oMod, Bf.sem, oLen, oAbs, oInt1, oGcd, oNeg, oIx, Mt.sem, List.getElem?_cons_zero, List.getElem?_cons_succ, List.set_cons_zero, List.set_cons_succ, setAll, frz_lst, frz_dct, tru_bl, tru_int, oEq_int, oEq_str, Bool.false_bne, Bool.true_bne, if_true, if_false, Bool.false_eq_true, reduceIte, Bool.not_true, Bool.not_false, List.cons.injEq, true_and, and_true, List.length_cons, List.length_nil, Option.some.injEq, exists_eq_left']
            simp only [b_l_draw_plan_1, wS, sem, Sm.val, Sm.tst, Sm.arg, Sm.itr, boolOf, truthOf, gT, gTs, zip_tup, seq_lst, seq_tup, lst_lst, Co.sem, oInt, Bo.sem, oAdd, oSub, oMul, oDiv, oMod, Bf.sem, oLen, oAbs, oInt1, oGcd, oNeg, oIx, Mt.sem, List.getElem?_cons_zero, List.getElem?_cons_succ, List.set_cons_zero, List.set_cons_succ, setAll, frz_lst, frz_dct, tru_bl, tru_int, oEq_int, oEq_str, Bool.false_bne, Bool.true_bne, if_true, if_false, Bool.false_eq_true, reduceIte, Bool.not_true, Bool.not_false, List.cons.injEq, true_and, and_true, List.length_cons, List.length_nil, Option.some.injEq, exists_eq_left']
            refine ⟨by decide, by decide, ?_⟩
            rw [show planT fs = T.tup (fs.map lapT) from rfl]
            simp only [List.length_map, List.length_cons, List.length_nil]
            refine ⟨Nat.le_trans (show fs.length + 1 ≤ 10 by omega) (by decide), ?_⟩
            simp only [b_l_draw_plan_0, wS, sem, Sm.val, Sm.tst, Sm.arg, Sm.itr, boolOf, truthOf, gT, gTs, zip_tup, seq_lst, seq_tup, lst_lst, Co.sem, oInt, Bo.sem, oAdd, oSub, oMul, oDiv, oMod, Bf.sem, oLen, oAbs, oInt1, oGcd, oNeg, oIx, Mt.sem, List.getElem?_cons_zero, List.getElem?_cons_succ, List.set_cons_zero, List.set_cons_succ, setAll, frz_lst, frz_dct, tru_bl, tru_int, oEq_int, oEq_str, Bool.false_bne, Bool.true_bne, if_true, if_false, Bool.false_eq_true, reduceIte, Bool.not_true, Bool.not_false, List.cons.injEq, true_and, and_true, List.length_cons, List.length_nil, Option.some.injEq, exists_eq_left']
            have e : T.tup (fs.map lapT ++ [T.tup [stepsT ps, .non]]) = planT (fs ++ [(ps, none)]) := by unfold planT; rw [List.map_append]; rfl
            rw [e]
            exact k _ S4 ⟨fs, [(ps, none)], rfl, by omega, hf, .inr ⟨ps, rfl, hps, hz⟩⟩ hs4 (k2.tr (k3.tr k4))
    · simp only [hj, decide_false, wS, sem, Sm.val, Sm.tst, Sm.arg, Sm.itr, boolOf, truthOf, gT, gTs, zip_tup, seq_lst, seq_tup, lst_lst, Co.sem, oInt, Bo.sem, oAdd, oSub, oMul, oDiv, oMod, Bf.sem, oLen, oAbs, oInt1, oGcd, oNeg, oIx, Mt.sem, List.getElem?_cons_zero, List.getElem?_cons_succ, List.set_cons_zero, List.set_cons_succ, setAll, frz_lst, frz_dct, tru_bl, tru_int, oEq_int, oEq_str, Bool.false_bne, Bool.true_bne, if_true, if_false, Bool.false_eq_true, reduceIte, Bool.not_true, Bool.not_false, List.cons.injEq, true_and, and_true, List.length_cons, List.length_nil, Option.some.injEq, exists_eq_left']
      exact fin
/-! ### more of expressions of a kind -/
section
variable {G : Gx} {env : TP.Env}
theorem i_a {a : E} {S : Sto} {R : List T → (Sto → Prop) → Sto → Prop} {X : XP} : (sem G (.iA a)).i env S R X = (sem G a).e env S (fun x S1 => match seqOf S1 x with | some ts => R ts (gdOf S1 x) S1 | none => False) X := rfl
theorem Pr.gup {e : E} {k m k' m' : Nat} (h : Pr G env e (Gd k m)) (a : k ≤ k') (b : m ≤ m') : Pr G env e (Gd k' m') := h.imp fun _ g => g.up a b
theorem gd0 {t : T} (h : (shK 0 1921 t && tame 60 t) = true) : Gd 0 1921 t := by
  rw [Bool.and_eq_true] at h
  exact ⟨sh_ofK h.1, h.2⟩
theorem p_int {i : Int} (h : i.natAbs < 2 ^ 60) : Pr G env (.int i) (Gd 0 1921) := pr_int (gd_int h)
theorem p_neg1 : Pr G env (.bin .sub (.int 0) (.int 1)) (Gd 0 1921) := pr_sub (gd0 (by decide +kernel))
theorem p_bl {b : Bool} : Pr G env (.bl b) (Gd 0 1921) := pr_bl (gd0 (by cases b <;> decide +kernel))
theorem p_non : Pr G env .non (Gd 0 1921) := pr_non (gd0 (by decide +kernel))
theorem p_one {a : E} {k m : Nat} (ha : Pr G env a (Gd k m)) : Pr G env (.tup (.cons a .nil)) (Gd (k + 1) (1 * (m + 2) + 3)) := pr_tup (prl_cons ha prl_nil) (by omega)
theorem p_two {a b : E} {k m : Nat} (ha : Pr G env a (Gd k m)) (hb : Pr G env b (Gd k m)) : Pr G env (.tup (.cons a (.cons b .nil))) (Gd (k + 1) (2 * (m + 2) + 3)) := pr_tup (prl_cons ha (prl_cons hb prl_nil)) (by omega)
theorem p_three {a b c : E} {k m : Nat} (ha : Pr G env a (Gd k m)) (hb : Pr G env b (Gd k m)) (hc : Pr G env c (Gd k m)) : Pr G env (.tup (.cons a (.cons b (.cons c .nil)))) (Gd (k + 1) (3 * (m + 2) + 3)) := pr_tup (prl_cons ha (prl_cons hb (prl_cons hc prl_nil))) (by omega)
theorem LstG.gd {k m n : Nat} {v : T} (h : LstG (Gd k m) n v) : Gd (k + 1) (n * (m + 2) + 3) v := by
  obtain ⟨us, rfl, l, hu⟩ := h
  rw [← l]; exact gd_lst hu
theorem pr_lc {a el : E} {i : Nat} {x : Str} {P Q : T → Prop} {n : Nat} (ha : Pr G env a (LstG P n)) (ln : n ≤ 1000) (hel : ∀ t, P t → Pr G ((wipeE env [i]).set i (some t)) el Q) : Pr G env (.frz (.lc [(x, i)] (.nm i) (.iA a) el)) (LstG Q n) := fun S R X q => by
  rw [e_frz]
  show (sem G a).e env S (fun x S1 => match seqOf S1 x with
    | some ts => wLc [i] (.nm i) (fun _ S R _ => R true S) (sem G el).e (gdOf S1 x) env ts [] S1 fun acc S2 => ∀ p, S2 p = none → frzT (up S2 p (.lst acc)) (.ref p) R
    | none => False) X
  refine ha S _ X ?_
  rintro _ ⟨us, rfl, l1, hu⟩
  simp only [seq_lst]
  refine wLc_by (fun acc S' => S' = S ∧ acc.length ≤ n ∧ ∀ t ∈ acc, Q t) (fun _ _ _ => trivial) (fun acc _ h => Nat.lt_of_le_of_lt (Nat.le_trans h.2.1 ln) (by decide)) ?_ ?_ ⟨rfl, by simp, by simp⟩
  · rintro t acc S' C ht ⟨rfl, la, hq⟩ hlt hC
    refine hel t (hu t ht) S' C _ fun v qv => hC v S' ⟨rfl, by simp; omega, fun z hz => ?_⟩
    rcases List.mem_append.mp hz with hz | hz
    · exact hq z hz
    · rw [List.mem_singleton.mp hz]; exact qv
  · rintro acc S' ⟨rfl, la, hq⟩ hlen
    intro p np
    simp only [frzT, up_same, rm_up np]
    exact q _ ⟨acc, rfl, by omega, hq⟩
/-- a list that may change, and more behind it -/
theorem use_addref {a : E} {i n : Nat} {p : Addr} {ws : List T} {P : T → Prop} {S : Sto} {R : RP} {X : XP} (hv : env[i]? = some (some (.ref p))) (hS : S p = some (.lst ws)) (h : Pr G env a (LstG P n)) (l : ws.length + n ≤ 1000) (k : ∀ us q, us.length = n → (∀ u ∈ us, P u) → S q = none → R (.ref q) (up S q (.lst (ws ++ us)))) : (sem G (.bin .add (.var i) a)).e env S R X := by
  rw [e_add]
  show match env[i]? with | some (some t) => _ | _ => False
  rw [hv]
  refine h S _ X ?_
  rintro _ ⟨us, rfl, l1, hu⟩
  simp only [oAdd, lst_lst, lst_ref hS]
  exact ⟨Nat.le_trans (show _ ≤ 1000 by omega) (by decide), fun q nq => k us q l1 hu nq⟩
/-- a new list that may change -/
theorem use_lst {as : E} {n : Nat} {P : T → Prop} {S : Sto} {R : RP} {X : XP} (h : PrL G env as P n) (l : n ≤ 1000) (k : ∀ us q, us.length = n → (∀ u ∈ us, P u) → S q = none → R (.ref q) (up S q (.lst us))) : (sem G (.lst as)).e env S R X := by
  rw [e_lst]
  exact h S _ X fun ts e hts => ⟨by rw [e]; exact Nat.le_trans l (by decide), fun p np => k ts p e hts np⟩
end
end TG

set_option maxHeartbeats 4000000
namespace TG
open PySem PySem.Spec PyProof.Rows L2 TP

/-! ### rooms and places judged -/
def b_is_level_0 : Stm := .cons (.ret (.and (.call 1 (.cons (.var 1) .nil)) (.and (.call 1 (.cons (.var 2) .nil)) (.one (.call 0 (.cons (.var 1) (.cons (.var 2) .nil))))))) .nil
def b_is_level_1 : Stm := .cons (.asg (.tup (.cons (.nm 1) (.cons (.nm 2) .nil))) (.var 0)) b_is_level_0
def b_is_level_2 : Stm := .cons (.ifs (.or (.not (.isi (.var 0) .tuple)) (.one (.cmp .ne (.blt .len (.cons (.var 0) .nil)) (.int 2)))) (.cons (.ret (.bl false)) .nil) .nil) b_is_level_1
def n_is_level : List Str := ["value", "low", "high"]
abbrev b_is_level : Stm := b_is_level_2
def b_is_room_0 : Stm := .cons (.ret (.blt .all (.cons (.frz (.lc [("level", 1)] (.nm 1) (.iA (.var 0)) (.call 0 (.cons (.var 1) .nil)))) .nil))) .nil
def b_is_room_1 : Stm := .cons (.ifs (.or (.not (.isi (.var 0) .tuple)) (.one (.not (.chain .le .le (.int 1) (.blt .len (.cons (.var 0) .nil)) (.con 0))))) (.cons (.ret (.bl false)) .nil) .nil) b_is_room_0
def n_is_room : List Str := ["value", "level"]
abbrev b_is_room : Stm := b_is_room_1
def b_is_place_0 : Stm := .cons (.ret (.not (.blt .any (.cons (.frz (.lc [("x", 2), ("low", 3), ("high", 4)] (.tup (.cons (.tup (.cons (.nm 3) (.cons (.nm 4) .nil))) (.cons (.nm 2) .nil))) (.iZ (.var 0) (.var 1)) (.or (.call 0 (.cons (.var 2) (.cons (.var 3) .nil))) (.one (.call 0 (.cons (.var 4) (.cons (.var 2) .nil))))))) .nil)))) .nil
def b_is_place_1 : Stm := .cons (.ifs (.not (.call 1 (.cons (.var 1) (.cons (.blt .len (.cons (.var 0) .nil)) .nil)))) (.cons (.ret (.bl false)) .nil) .nil) b_is_place_0
def n_is_place : List Str := ["room", "value", "x", "low", "high"]
abbrev b_is_place : Stm := b_is_place_1

def n_l_in_room : List Str := ["_law_room", "_law_place", "_law_x", "_law_low", "_law_high"]
abbrev b_l_in_room : Stm := (.cons (.ret (.not (.blt .any (.cons (.frz (.lc [("_law_x", 2), ("_law_low", 3), ("_law_high", 4)] (.tup (.cons (.nm 2) (.cons (.tup (.cons (.nm 3) (.cons (.nm 4) .nil))) .nil))) (.iZ (.var 1) (.var 0)) (.or (.call 0 (.cons (.var 2) (.cons (.var 3) .nil))) (.one (.call 0 (.cons (.var 4) (.cons (.var 2) .nil))))))) .nil)))) .nil)
def b_l_is_room_0 : Stm := .cons (.ret (.bl true)) .nil
def b_l_is_room_1 : Stm := .cons (.ifs (.or (.not (.isi (.var 1) .tuple)) (.or (.not (.call 1 (.cons (.var 1) (.cons (.int 2) .nil)))) (.one (.not (.call 0 (.cons (.ix (.var 1) (.int 0)) (.cons (.ix (.var 1) (.int 1)) .nil))))))) (.cons (.ret (.bl false)) .nil) .nil) .nil
def b_l_is_room_2 : Stm := .cons (.for_ (.nm 1) (.iA (.var 0)) b_l_is_room_1) b_l_is_room_0
def b_l_is_room_3 : Stm := .cons (.ifs (.or (.not (.isi (.var 0) .tuple)) (.one (.not (.chain .lt .lt (.int 0) (.blt .len (.cons (.var 0) .nil)) (.int 5))))) (.cons (.ret (.bl false)) .nil) .nil) b_l_is_room_2
def n_l_is_room : List Str := ["_law_value", "_law_pair"]
abbrev b_l_is_room : Stm := b_l_is_room_3

def n_l_place_due : List Str := ["_law_room", "_law_value"]
abbrev b_l_place_due : Stm := (.cons (.ret (.and (.call 1 (.cons (.var 1) (.cons (.blt .len (.cons (.var 0) .nil)) .nil))) (.one (.call 0 (.cons (.var 0) (.cons (.var 1) .nil)))))) .nil)
/-- less, of two pairs of integers -/
def ltF : T → T → Bool
  | .tup [.int n, .int d], .tup [.int k, .int e] => decide (n * e < k * d)
  | _, _ => false
theorem ltF_rT (x y : Rat) : ltF (rT x) (rT y) = decide (x < y) := lt_cross x y
def isLevel : T → Bool
  | .tup [a, b] => isFr a && isFr b && ltF a b
  | _ => false
theorem isLevel_flat {t : T} (h : ∀ a b, t ≠ .tup [a, b]) : isLevel t = false := by
  unfold isLevel
  split
  · exact absurd rfl (h _ _)
  · rfl
def isRoom : T → Bool
  | .tup us => decide (1 ≤ us.length) && decide (us.length ≤ 4) && us.all isLevel
  | _ => false
def spLevel : TSp := fun ts S R X => ∃ t, ts = [t] ∧ tame 900 t = true ∧ R (.bl (isLevel t)) S
theorem w_level (G : Gx) (N : List Str) (hN : N.length = 3) {x0 : Str} (h0 : G.fns[0]? = some (x0, spLess)) {x1 : Str} (h1 : G.fns[1]? = some (x1, spIsFr)) (ts : List T) (S : Sto) (R : RP) (X : XP) (h : spLevel ts S R X) : ts.length = 1 ∧ wS b_is_level G (startE N ts) S { nx := fun _ S' => R .non S', rt := R, xx := fun _ => X } := by
  obtain ⟨t, rfl, hd, k⟩ := h
  refine ⟨rfl, ?_⟩
  unfold startE
  rw [hN]
  show wS b_is_level G [some t, none, none] S _
  have hp := tame_plain hd
  simp only [b_is_level, b_is_level_2, wS, sem, Sm.val, Sm.tst, Sm.arg, Sm.itr, boolOf, truthOf, gT, gTs, zip_tup, seq_lst, seq_tup, lst_lst, Co.sem, oInt, Bo.sem, oAdd, oSub, oMul, oDiv, oMod, Bf.sem, oLen, oAbs, oInt1, oGcd, oNeg, oIx, Mt.sem, List.getElem?_cons_zero, List.getElem?_cons_succ, List.set_cons_zero, List.set_cons_succ, setAll, frz_lst, frz_dct, tru_bl, tru_int, oEq_int, oEq_str, Bool.false_bne, Bool.true_bne, if_true, if_false, Bool.false_eq_true, reduceIte, Bool.not_true, Bool.not_false, List.cons.injEq, true_and, and_true, List.length_cons, List.length_nil, Option.some.injEq, exists_eq_left', oIsi_plain hp, tup_kind hp]
  cases t with
  | tup us =>
    simp only [isTup, wS, sem, Sm.val, Sm.tst, Sm.arg, Sm.itr, boolOf, truthOf, gT, gTs, zip_tup, seq_lst, seq_tup, lst_lst, Co.sem, oInt, Bo.sem, oAdd, oSub, oMul, oDiv, oMod, Bf.sem, oLen, oAbs, oInt1, oGcd, oNeg, oIx, Mt.sem, List.getElem?_cons_zero, List.getElem?_cons_succ, List.set_cons_zero, List.set_cons_succ, setAll, frz_lst, frz_dct, tru_bl, tru_int, oEq_int, oEq_str, Bool.false_bne, Bool.true_bne, if_true, if_false, Bool.false_eq_true, reduceIte, Bool.not_true, Bool.not_false, List.cons.injEq, true_and, and_true, List.length_cons, List.length_nil, Option.some.injEq, exists_eq_left']
    match us, hd, k with
    | [a, b], hd, k =>
      have da := (tame_tup hd).2 a (by simp)
      have db := (tame_tup hd).2 b (by simp)
      simp only [b_is_level_1, b_is_level_0, wS, sem, Sm.val, Sm.tst, Sm.arg, Sm.itr, boolOf, truthOf, gT, gTs, zip_tup, seq_lst, seq_tup, lst_lst, Co.sem, oInt, Bo.sem, oAdd, oSub, oMul, oDiv, oMod, Bf.sem, oLen, oAbs, oInt1, oGcd, oNeg, oIx, Mt.sem, List.getElem?_cons_zero, List.getElem?_cons_succ, List.set_cons_zero, List.set_cons_succ, setAll, frz_lst, frz_dct, tru_bl, tru_int, oEq_int, oEq_str, Bool.false_bne, Bool.true_bne, if_true, if_false, Bool.false_eq_true, reduceIte, Bool.not_true, Bool.not_false, List.cons.injEq, true_and, and_true, List.length_cons, List.length_nil, Option.some.injEq, exists_eq_left', h0, h1]
      rw [if_neg (by simp)]
      refine ⟨a, rfl, tame_plain da, fun us e => by subst e; exact List.all_eq_true.mpr fun u hu => tame_plain ((tame_tup da).2 u hu), ?_⟩
      simp only [isLevel] at k
      by_cases c1 : isFr a = true
      · obtain ⟨x, rfl, sx⟩ := fr_tame c1 da
        simp only [c1, Bool.true_and] at k ⊢
        refine ⟨b, rfl, tame_plain db, fun us e => by subst e; exact List.all_eq_true.mpr fun u hu => tame_plain ((tame_tup db).2 u hu), ?_⟩
        by_cases c2 : isFr b = true
        · obtain ⟨y, rfl, sy⟩ := fr_tame c2 db
          simp only [c2, Bool.true_and, ltF_rT] at k ⊢
          exact ⟨x, y, rfl, sx.up (by omega), sy.up (by omega), k⟩
        · rw [Bool.not_eq_true] at c2
          simp only [c2, Bool.false_and] at k ⊢
          exact k
      · rw [Bool.not_eq_true] at c1
        simp only [c1, Bool.false_and] at k ⊢
        exact k
    | [], _, k => rw [if_pos (by simp)]; exact k
    | [_], _, k =>
      rw [isLevel_flat (by intro a b e; cases e)] at k
      rw [if_pos (by simp)]; exact k
    | _ :: _ :: _ :: _, _, k =>
      rw [isLevel_flat (by intro a b e; cases e)] at k
      rw [if_pos (by simp; omega)]; exact k
  | _ => exact k
def spIsRoom : TSp := fun ts S R X => ∃ t, ts = [t] ∧ tame 900 t = true ∧ R (.bl (isRoom t)) S
theorem w_isRoom (G : Gx) (N : List Str) (hN : N.length = 2) {x0 : Str} (h0 : G.fns[0]? = some (x0, spLevel)) {z0 : Str} (hc0 : G.cons[0]? = some (z0, T.int 4)) (ts : List T) (S : Sto) (R : RP) (X : XP) (h : spIsRoom ts S R X) : ts.length = 1 ∧ wS b_is_room G (startE N ts) S { nx := fun _ S' => R .non S', rt := R, xx := fun _ => X } := by
  obtain ⟨t, rfl, hd, k⟩ := h
  refine ⟨rfl, ?_⟩
  unfold startE
  rw [hN]
  show wS b_is_room G [some t, none] S _
  have hp := tame_plain hd
  simp only [b_is_room, b_is_room_1, wS, sem, Sm.val, Sm.tst, Sm.arg, Sm.itr, boolOf, truthOf, gT, gTs, zip_tup, seq_lst, seq_tup, lst_lst, Co.sem, oInt, Bo.sem, oAdd, oSub, oMul, oDiv, oMod, Bf.sem, oLen, oAbs, oInt1, oGcd, oNeg, oIx, Mt.sem, List.getElem?_cons_zero, List.getElem?_cons_succ, List.set_cons_zero, List.set_cons_succ, setAll, frz_lst, frz_dct, tru_bl, tru_int, oEq_int, oEq_str, Bool.false_bne, Bool.true_bne, if_true, if_false, Bool.false_eq_true, reduceIte, Bool.not_true, Bool.not_false, List.cons.injEq, true_and, and_true, List.length_cons, List.length_nil, Option.some.injEq, exists_eq_left', oIsi_plain hp, tup_kind hp, hc0]
  cases t with
  | tup us =>
    obtain ⟨lu, du⟩ := tame_tup hd
    simp only [isTup, wS, sem, Sm.val, Sm.tst, Sm.arg, Sm.itr, boolOf, truthOf, gT, gTs, zip_tup, seq_lst, seq_tup, lst_lst, Co.sem, oInt, Bo.sem, oAdd, oSub, oMul, oDiv, oMod, Bf.sem, oLen, oAbs, oInt1, oGcd, oNeg, oIx, Mt.sem, List.getElem?_cons_zero, List.getElem?_cons_succ, List.set_cons_zero, List.set_cons_succ, setAll, frz_lst, frz_dct, tru_bl, tru_int, oEq_int, oEq_str, Bool.false_bne, Bool.true_bne, if_true, if_false, Bool.false_eq_true, reduceIte, Bool.not_true, Bool.not_false, List.cons.injEq, true_and, and_true, List.length_cons, List.length_nil, Option.some.injEq, exists_eq_left']
    simp only [isRoom] at k
    by_cases c1 : (1 : Int) ≤ us.length
    · have d1 : decide (1 ≤ us.length) = true := decide_eq_true (by omega)
      simp only [d1, Bool.true_and] at k
      simp only [c1, decide_true, wS, sem, Sm.val, Sm.tst, Sm.arg, Sm.itr, boolOf, truthOf, gT, gTs, zip_tup, seq_lst, seq_tup, lst_lst, Co.sem, oInt, Bo.sem, oAdd, oSub, oMul, oDiv, oMod, Bf.sem, oLen, oAbs, oInt1, oGcd, oNeg, oIx, Mt.sem, List.getElem?_cons_zero, List.getElem?_cons_succ, List.set_cons_zero, List.set_cons_succ, setAll, frz_lst, frz_dct, tru_bl, tru_int, oEq_int, oEq_str, Bool.false_bne, Bool.true_bne, if_true, if_false, Bool.false_eq_true, reduceIte, Bool.not_true, Bool.not_false, List.cons.injEq, true_and, and_true, List.length_cons, List.length_nil, Option.some.injEq, exists_eq_left']
      by_cases c2 : (us.length : Int) ≤ 4
      · have d2 : decide (us.length ≤ 4) = true := decide_eq_true (by omega)
        simp only [d2, Bool.true_and] at k
        simp only [c2, decide_true, wS, sem, Sm.val, Sm.tst, Sm.arg, Sm.itr, boolOf, truthOf, gT, gTs, zip_tup, seq_lst, seq_tup, lst_lst, Co.sem, oInt, Bo.sem, oAdd, oSub, oMul, oDiv, oMod, Bf.sem, oLen, oAbs, oInt1, oGcd, oNeg, oIx, Mt.sem, List.getElem?_cons_zero, List.getElem?_cons_succ, List.set_cons_zero, List.set_cons_succ, setAll, frz_lst, frz_dct, tru_bl, tru_int, oEq_int, oEq_str, Bool.false_bne, Bool.true_bne, if_true, if_false, Bool.false_eq_true, reduceIte, Bool.not_true, Bool.not_false, List.cons.injEq, true_and, and_true, List.length_cons, List.length_nil, Option.some.injEq, exists_eq_left']
        simp only [b_is_room_0, wS, sem, Sm.val, Sm.tst, Sm.arg, Sm.itr, boolOf, truthOf, gT, gTs, zip_tup, seq_lst, seq_tup, lst_lst, Co.sem, oInt, Bo.sem, oAdd, oSub, oMul, oDiv, oMod, Bf.sem, oLen, oAbs, oInt1, oGcd, oNeg, oIx, Mt.sem, List.getElem?_cons_zero, List.getElem?_cons_succ, List.set_cons_zero, List.set_cons_succ, setAll, frz_lst, frz_dct, tru_bl, tru_int, oEq_int, oEq_str, Bool.false_bne, Bool.true_bne, if_true, if_false, Bool.false_eq_true, reduceIte, Bool.not_true, Bool.not_false, List.cons.injEq, true_and, and_true, List.length_cons, List.length_nil, Option.some.injEq, exists_eq_left', h0]
        refine wLc_map (fun t => .bl (isLevel t)) trivial (by simp; exact Nat.le_trans (show us.length ≤ 4 by omega) (by decide)) ?_ fun _ => ?_
        · intro u hu C hC
          simp only [wS, sem, Sm.val, Sm.tst, Sm.arg, Sm.itr, boolOf, truthOf, gT, gTs, zip_tup, seq_lst, seq_tup, lst_lst, Co.sem, oInt, Bo.sem, oAdd, oSub, oMul, oDiv, oMod, Bf.sem, oLen, oAbs, oInt1, oGcd, oNeg, oIx, Mt.sem, List.getElem?_cons_zero, List.getElem?_cons_succ, List.set_cons_zero, List.set_cons_succ, setAll, frz_lst, frz_dct, tru_bl, tru_int, oEq_int, oEq_str, Bool.false_bne, Bool.true_bne, if_true, if_false, Bool.false_eq_true, reduceIte, Bool.not_true, Bool.not_false, List.cons.injEq, true_and, and_true, List.length_cons, List.length_nil, Option.some.injEq, exists_eq_left', wipeE, List.map_cons, List.map_nil]
          exact ⟨u, rfl, du u hu, hC⟩
        · simp only [List.nil_append]
          have e1 : us.map (fun u => T.bl (isLevel u)) = (us.map isLevel).map .bl := by rw [List.map_map]; rfl
          rw [e1]
          refine all_bls _ ?_
          have e2 : (us.map isLevel).all id = us.all isLevel := by rw [List.all_map]; rfl
          rw [e2]
          exact k
      · have d2 : decide (us.length ≤ 4) = false := decide_eq_false (by omega)
        simp only [d2, Bool.false_and] at k
        simp only [c2, decide_false, wS, sem, Sm.val, Sm.tst, Sm.arg, Sm.itr, boolOf, truthOf, gT, gTs, zip_tup, seq_lst, seq_tup, lst_lst, Co.sem, oInt, Bo.sem, oAdd, oSub, oMul, oDiv, oMod, Bf.sem, oLen, oAbs, oInt1, oGcd, oNeg, oIx, Mt.sem, List.getElem?_cons_zero, List.getElem?_cons_succ, List.set_cons_zero, List.set_cons_succ, setAll, frz_lst, frz_dct, tru_bl, tru_int, oEq_int, oEq_str, Bool.false_bne, Bool.true_bne, if_true, if_false, Bool.false_eq_true, reduceIte, Bool.not_true, Bool.not_false, List.cons.injEq, true_and, and_true, List.length_cons, List.length_nil, Option.some.injEq, exists_eq_left']
        exact k
    · have d1 : decide (1 ≤ us.length) = false := decide_eq_false (by omega)
      simp only [d1, Bool.false_and] at k
      simp only [c1, decide_false, wS, sem, Sm.val, Sm.tst, Sm.arg, Sm.itr, boolOf, truthOf, gT, gTs, zip_tup, seq_lst, seq_tup, lst_lst, Co.sem, oInt, Bo.sem, oAdd, oSub, oMul, oDiv, oMod, Bf.sem, oLen, oAbs, oInt1, oGcd, oNeg, oIx, Mt.sem, List.getElem?_cons_zero, List.getElem?_cons_succ, List.set_cons_zero, List.set_cons_succ, setAll, frz_lst, frz_dct, tru_bl, tru_int, oEq_int, oEq_str, Bool.false_bne, Bool.true_bne, if_true, if_false, Bool.false_eq_true, reduceIte, Bool.not_true, Bool.not_false, List.cons.injEq, true_and, and_true, List.length_cons, List.length_nil, Option.some.injEq, exists_eq_left']
      exact k
  | _ => exact k
def spLIsRoom : TSp := fun ts S R X => ∃ t, ts = [t] ∧ tame 900 t = true ∧ R (.bl (isRoom t)) S
theorem row_two {a b : T} : isRow (.tup [a, b]) 2 = (isFr a && isFr b) := by simp [isRow]
theorem w_lroom (G : Gx) (N : List Str) (hN : N.length = 2) {x0 : Str} (h0 : G.fns[0]? = some (x0, spLess)) {x1 : Str} (h1 : G.fns[1]? = some (x1, spLRow)) (ts : List T) (S : Sto) (R : RP) (X : XP) (h : spLIsRoom ts S R X) : ts.length = 1 ∧ wS b_l_is_room G (startE N ts) S { nx := fun _ S' => R .non S', rt := R, xx := fun _ => X } := by
  obtain ⟨t, rfl, hd, k⟩ := h
  refine ⟨rfl, ?_⟩
  unfold startE
  rw [hN]
  show wS b_l_is_room G [some t, none] S _
  have hp := tame_plain hd
  simp only [b_l_is_room, b_l_is_room_3, wS, sem, Sm.val, Sm.tst, Sm.arg, Sm.itr, boolOf, truthOf, gT, gTs, zip_tup, seq_lst, seq_tup, lst_lst, Co.sem, oInt, Bo.sem, oAdd, oSub, oMul, oDiv, oMod, Bf.sem, oLen, oAbs, oInt1, oGcd, oNeg, oIx, Mt.sem, List.getElem?_cons_zero, List.getElem?_cons_succ, List.set_cons_zero, List.set_cons_succ, setAll, frz_lst, frz_dct, tru_bl, tru_int, oEq_int, oEq_str, Bool.false_bne, Bool.true_bne, if_true, if_false, Bool.false_eq_true, reduceIte, Bool.not_true, Bool.not_false, List.cons.injEq, true_and, and_true, List.length_cons, List.length_nil, Option.some.injEq, exists_eq_left', oIsi_plain hp, tup_kind hp]
  cases t with
  | tup us =>
    obtain ⟨lu, du⟩ := tame_tup hd
    simp only [isTup, wS, sem, Sm.val, Sm.tst, Sm.arg, Sm.itr, boolOf, truthOf, gT, gTs, zip_tup, seq_lst, seq_tup, lst_lst, Co.sem, oInt, Bo.sem, oAdd, oSub, oMul, oDiv, oMod, Bf.sem, oLen, oAbs, oInt1, oGcd, oNeg, oIx, Mt.sem, List.getElem?_cons_zero, List.getElem?_cons_succ, List.set_cons_zero, List.set_cons_succ, setAll, frz_lst, frz_dct, tru_bl, tru_int, oEq_int, oEq_str, Bool.false_bne, Bool.true_bne, if_true, if_false, Bool.false_eq_true, reduceIte, Bool.not_true, Bool.not_false, List.cons.injEq, true_and, and_true, List.length_cons, List.length_nil, Option.some.injEq, exists_eq_left']
    simp only [isRoom] at k
    by_cases c1 : (0 : Int) < us.length
    · have d1 : decide (1 ≤ us.length) = true := decide_eq_true (by omega)
      simp only [d1, Bool.true_and] at k
      simp only [c1, decide_true, wS, sem, Sm.val, Sm.tst, Sm.arg, Sm.itr, boolOf, truthOf, gT, gTs, zip_tup, seq_lst, seq_tup, lst_lst, Co.sem, oInt, Bo.sem, oAdd, oSub, oMul, oDiv, oMod, Bf.sem, oLen, oAbs, oInt1, oGcd, oNeg, oIx, Mt.sem, List.getElem?_cons_zero, List.getElem?_cons_succ, List.set_cons_zero, List.set_cons_succ, setAll, frz_lst, frz_dct, tru_bl, tru_int, oEq_int, oEq_str, Bool.false_bne, Bool.true_bne, if_true, if_false, Bool.false_eq_true, reduceIte, Bool.not_true, Bool.not_false, List.cons.injEq, true_and, and_true, List.length_cons, List.length_nil, Option.some.injEq, exists_eq_left']
      by_cases c2 : (us.length : Int) < 5
      · have d2 : decide (us.length ≤ 4) = true := decide_eq_true (by omega)
        simp only [d2, Bool.true_and] at k
        simp only [c2, decide_true, wS, sem, Sm.val, Sm.tst, Sm.arg, Sm.itr, boolOf, truthOf, gT, gTs, zip_tup, seq_lst, seq_tup, lst_lst, Co.sem, oInt, Bo.sem, oAdd, oSub, oMul, oDiv, oMod, Bf.sem, oLen, oAbs, oInt1, oGcd, oNeg, oIx, Mt.sem, List.getElem?_cons_zero, List.getElem?_cons_succ, List.set_cons_zero, List.set_cons_succ, setAll, frz_lst, frz_dct, tru_bl, tru_int, oEq_int, oEq_str, Bool.false_bne, Bool.true_bne, if_true, if_false, Bool.false_eq_true, reduceIte, Bool.not_true, Bool.not_false, List.cons.injEq, true_and, and_true, List.length_cons, List.length_nil, Option.some.injEq, exists_eq_left']
        simp only [b_l_is_room_2, wS, sem, Sm.val, Sm.tst, Sm.arg, Sm.itr, boolOf, truthOf, gT, gTs, zip_tup, seq_lst, seq_tup, lst_lst, Co.sem, oInt, Bo.sem, oAdd, oSub, oMul, oDiv, oMod, Bf.sem, oLen, oAbs, oInt1, oGcd, oNeg, oIx, Mt.sem, List.getElem?_cons_zero, List.getElem?_cons_succ, List.set_cons_zero, List.set_cons_succ, setAll, frz_lst, frz_dct, tru_bl, tru_int, oEq_int, oEq_str, Bool.false_bne, Bool.true_bne, if_true, if_false, Bool.false_eq_true, reduceIte, Bool.not_true, Bool.not_false, List.cons.injEq, true_and, and_true, List.length_cons, List.length_nil, Option.some.injEq, exists_eq_left']
        refine wFor_by (fun i e s => s = S ∧ (∃ a, e = [some (.tup us), a]) ∧ (us.take i).all isLevel = true) (fun _ _ _ _ => trivial) ?_ ?_ ⟨rfl, ⟨_, rfl⟩, rfl⟩
        · rintro i u e s' C hu ⟨rfl, ⟨a, rfl⟩, hall⟩ hC
          have tu := du u (List.mem_of_getElem? hu)
          have pu := tame_plain tu
          have bad : isLevel u = false → R (.bl false) s' := fun q => by rw [not_all hu q] at k; exact k
          have good : isLevel u = true → C [some (.tup us), some u] s' := fun q => hC _ _ ⟨rfl, ⟨_, rfl⟩, take_all hu hall q⟩
          simp only [b_l_is_room_1, wS, sem, Sm.val, Sm.tst, Sm.arg, Sm.itr, boolOf, truthOf, gT, gTs, zip_tup, seq_lst, seq_tup, lst_lst, Co.sem, oInt, Bo.sem, oAdd, oSub, oMul, oDiv, oMod, Bf.sem, oLen, oAbs, oInt1, oGcd, oNeg, oIx, Mt.sem, List.getElem?_cons_zero, List.getElem?_cons_succ, List.set_cons_zero, List.set_cons_succ, setAll, frz_lst, frz_dct, tru_bl, tru_int, oEq_int, oEq_str, Bool.false_bne, Bool.true_bne, if_true, if_false, Bool.false_eq_true, reduceIte, Bool.not_true, Bool.not_false, List.cons.injEq, true_and, and_true, List.length_cons, List.length_nil, Option.some.injEq, exists_eq_left', oIsi_plain pu, tup_kind pu]
          cases u with
          | tup vs =>
            simp only [isTup, wS, sem, Sm.val, Sm.tst, Sm.arg, Sm.itr, boolOf, truthOf, gT, gTs, zip_tup, seq_lst, seq_tup, lst_lst, Co.sem, oInt, Bo.sem, oAdd, oSub, oMul, oDiv, oMod, Bf.sem, oLen, oAbs, oInt1, oGcd, oNeg, oIx, Mt.sem, List.getElem?_cons_zero, List.getElem?_cons_succ, List.set_cons_zero, List.set_cons_succ, setAll, frz_lst, frz_dct, tru_bl, tru_int, oEq_int, oEq_str, Bool.false_bne, Bool.true_bne, if_true, if_false, Bool.false_eq_true, reduceIte, Bool.not_true, Bool.not_false, List.cons.injEq, true_and, and_true, List.length_cons, List.length_nil, Option.some.injEq, exists_eq_left', h1]
            refine ⟨_, 2, rfl, tu, ?_⟩
            match vs, tu, bad, good with
            | [a, b], tu, bad, good =>
              have da := (tame_tup tu).2 a (by simp)
              have db := (tame_tup tu).2 b (by simp)
              rw [row_two]
              simp only [isLevel] at bad good
              by_cases c3 : isFr a = true
              · obtain ⟨x, rfl, sx⟩ := fr_tame c3 da
                simp only [c3, Bool.true_and] at bad good ⊢
                by_cases c4 : isFr b = true
                · obtain ⟨y, rfl, sy⟩ := fr_tame c4 db
                  simp only [c4, Bool.true_and, ltF_rT, Bool.not_true, wS, sem, Sm.val, Sm.tst, Sm.arg, Sm.itr, boolOf, truthOf, gT, gTs, zip_tup, seq_lst, seq_tup, lst_lst, Co.sem, oInt, Bo.sem, oAdd, oSub, oMul, oDiv, oMod, Bf.sem, oLen, oAbs, oInt1, oGcd, oNeg, oIx, Mt.sem, List.getElem?_cons_zero, List.getElem?_cons_succ, List.set_cons_zero, List.set_cons_succ, setAll, frz_lst, frz_dct, tru_bl, tru_int, oEq_int, oEq_str, Bool.false_bne, Bool.true_bne, if_true, if_false, Bool.false_eq_true, reduceIte, Bool.not_true, Bool.not_false, List.cons.injEq, true_and, and_true, List.length_cons, List.length_nil, Option.some.injEq, exists_eq_left', h0] at bad good ⊢
                  refine ⟨rT x, at_head, rT y, rfl, x, y, rfl, sx.up (by omega), sy.up (by omega), ?_⟩
                  by_cases c5 : x < y
                  · simp only [c5, decide_true, Bool.not_true, wS, sem, Sm.val, Sm.tst, Sm.arg, Sm.itr, boolOf, truthOf, gT, gTs, zip_tup, seq_lst, seq_tup, lst_lst, Co.sem, oInt, Bo.sem, oAdd, oSub, oMul, oDiv, oMod, Bf.sem, oLen, oAbs, oInt1, oGcd, oNeg, oIx, Mt.sem, List.getElem?_cons_zero, List.getElem?_cons_succ, List.set_cons_zero, List.set_cons_succ, setAll, frz_lst, frz_dct, tru_bl, tru_int, oEq_int, oEq_str, Bool.false_bne, Bool.true_bne, if_true, if_false, Bool.false_eq_true, reduceIte, Bool.not_true, Bool.not_false, List.cons.injEq, true_and, and_true, List.length_cons, List.length_nil, Option.some.injEq, exists_eq_left'] at good ⊢
                    exact good trivial
                  · simp only [c5, decide_false, Bool.not_false, wS, sem, Sm.val, Sm.tst, Sm.arg, Sm.itr, boolOf, truthOf, gT, gTs, zip_tup, seq_lst, seq_tup, lst_lst, Co.sem, oInt, Bo.sem, oAdd, oSub, oMul, oDiv, oMod, Bf.sem, oLen, oAbs, oInt1, oGcd, oNeg, oIx, Mt.sem, List.getElem?_cons_zero, List.getElem?_cons_succ, List.set_cons_zero, List.set_cons_succ, setAll, frz_lst, frz_dct, tru_bl, tru_int, oEq_int, oEq_str, Bool.false_bne, Bool.true_bne, if_true, if_false, Bool.false_eq_true, reduceIte, Bool.not_true, Bool.not_false, List.cons.injEq, true_and, and_true, List.length_cons, List.length_nil, Option.some.injEq, exists_eq_left'] at bad ⊢
                    exact bad trivial
                · rw [Bool.not_eq_true] at c4
                  simp only [c4, Bool.false_and, Bool.not_false, wS, sem, Sm.val, Sm.tst, Sm.arg, Sm.itr, boolOf, truthOf, gT, gTs, zip_tup, seq_lst, seq_tup, lst_lst, Co.sem, oInt, Bo.sem, oAdd, oSub, oMul, oDiv, oMod, Bf.sem, oLen, oAbs, oInt1, oGcd, oNeg, oIx, Mt.sem, List.getElem?_cons_zero, List.getElem?_cons_succ, List.set_cons_zero, List.set_cons_succ, setAll, frz_lst, frz_dct, tru_bl, tru_int, oEq_int, oEq_str, Bool.false_bne, Bool.true_bne, if_true, if_false, Bool.false_eq_true, reduceIte, Bool.not_true, Bool.not_false, List.cons.injEq, true_and, and_true, List.length_cons, List.length_nil, Option.some.injEq, exists_eq_left'] at bad ⊢
                  exact bad trivial
              · rw [Bool.not_eq_true] at c3
                simp only [c3, Bool.false_and, Bool.not_false, wS, sem, Sm.val, Sm.tst, Sm.arg, Sm.itr, boolOf, truthOf, gT, gTs, zip_tup, seq_lst, seq_tup, lst_lst, Co.sem, oInt, Bo.sem, oAdd, oSub, oMul, oDiv, oMod, Bf.sem, oLen, oAbs, oInt1, oGcd, oNeg, oIx, Mt.sem, List.getElem?_cons_zero, List.getElem?_cons_succ, List.set_cons_zero, List.set_cons_succ, setAll, frz_lst, frz_dct, tru_bl, tru_int, oEq_int, oEq_str, Bool.false_bne, Bool.true_bne, if_true, if_false, Bool.false_eq_true, reduceIte, Bool.not_true, Bool.not_false, List.cons.injEq, true_and, and_true, List.length_cons, List.length_nil, Option.some.injEq, exists_eq_left'] at bad ⊢
                exact bad trivial
            | [], _, bad, _ => exact bad rfl
            | [_], _, bad, _ =>
              exact bad (isLevel_flat (by intro a b e; cases e))
            | x :: y :: z :: r, _, bad, _ =>
              have e : isRow (.tup (x :: y :: z :: r)) 2 = false := by
                simp only [isRow, List.length_cons]
                rw [decide_eq_false (by omega), Bool.false_and]
              rw [e]
              exact bad (isLevel_flat (by intro a b e; cases e))
          | _ => exact bad rfl
        · rintro e s' ⟨rfl, ⟨a, rfl⟩, hall⟩
          simp only [b_l_is_room_0, wS, sem, Sm.val, Sm.tst, Sm.arg, Sm.itr, boolOf, truthOf, gT, gTs, zip_tup, seq_lst, seq_tup, lst_lst, Co.sem, oInt, Bo.sem, oAdd, oSub, oMul, oDiv, oMod, Bf.sem, oLen, oAbs, oInt1, oGcd, oNeg, oIx, Mt.sem, List.getElem?_cons_zero, List.getElem?_cons_succ, List.set_cons_zero, List.set_cons_succ, setAll, frz_lst, frz_dct, tru_bl, tru_int, oEq_int, oEq_str, Bool.false_bne, Bool.true_bne, if_true, if_false, Bool.false_eq_true, reduceIte, Bool.not_true, Bool.not_false, List.cons.injEq, true_and, and_true, List.length_cons, List.length_nil, Option.some.injEq, exists_eq_left']
          rw [List.take_length] at hall
          rw [hall] at k
          exact k
      · have d2 : decide (us.length ≤ 4) = false := decide_eq_false (by omega)
        simp only [d2, Bool.false_and] at k
        simp only [c2, decide_false, wS, sem, Sm.val, Sm.tst, Sm.arg, Sm.itr, boolOf, truthOf, gT, gTs, zip_tup, seq_lst, seq_tup, lst_lst, Co.sem, oInt, Bo.sem, oAdd, oSub, oMul, oDiv, oMod, Bf.sem, oLen, oAbs, oInt1, oGcd, oNeg, oIx, Mt.sem, List.getElem?_cons_zero, List.getElem?_cons_succ, List.set_cons_zero, List.set_cons_succ, setAll, frz_lst, frz_dct, tru_bl, tru_int, oEq_int, oEq_str, Bool.false_bne, Bool.true_bne, if_true, if_false, Bool.false_eq_true, reduceIte, Bool.not_true, Bool.not_false, List.cons.injEq, true_and, and_true, List.length_cons, List.length_nil, Option.some.injEq, exists_eq_left']
        exact k
    · have d1 : decide (1 ≤ us.length) = false := decide_eq_false (by omega)
      simp only [d1, Bool.false_and] at k
      simp only [c1, decide_false, wS, sem, Sm.val, Sm.tst, Sm.arg, Sm.itr, boolOf, truthOf, gT, gTs, zip_tup, seq_lst, seq_tup, lst_lst, Co.sem, oInt, Bo.sem, oAdd, oSub, oMul, oDiv, oMod, Bf.sem, oLen, oAbs, oInt1, oGcd, oNeg, oIx, Mt.sem, List.getElem?_cons_zero, List.getElem?_cons_succ, List.set_cons_zero, List.set_cons_succ, setAll, frz_lst, frz_dct, tru_bl, tru_int, oEq_int, oEq_str, Bool.false_bne, Bool.true_bne, if_true, if_false, Bool.false_eq_true, reduceIte, Bool.not_true, Bool.not_false, List.cons.injEq, true_and, and_true, List.length_cons, List.length_nil, Option.some.injEq, exists_eq_left']
      exact k
  | _ => exact k
/-! ### places -/
def outB (p : (Rat × Rat) × Rat) : Bool := decide (p.2 < p.1.1) || decide (p.1.2 < p.2)
/-- the rows of the room, none of whose fractions is out of it -/
def placeB (rs : Rm) (zs : List Rat) : Bool := !((rs.zip zs).any outB)
def isPlace (rs : Rm) : T → Bool
  | .tup us => isRow (.tup us) rs.length && !((rs.zip us).any fun p => ltF p.2 (rT p.1.1) || ltF (rT p.1.2) p.2)
  | _ => false
theorem frs_tame {b : Nat} : ∀ {us : List T}, us.all isFr = true → (∀ u ∈ us, tame b u = true) → ∃ zs : List Rat, us = zs.map rT ∧ ∀ z ∈ zs, Sz b z
  | [], _, _ => ⟨[], rfl, by simp⟩
  | u :: us, h, hd => by
    simp only [List.all_cons, Bool.and_eq_true] at h
    obtain ⟨z, rfl, sz⟩ := fr_tame h.1 (hd u (by simp))
    obtain ⟨zs, rfl, hz⟩ := frs_tame h.2 fun x hx => hd x (by simp [hx])
    refine ⟨z :: zs, rfl, fun x hx => ?_⟩
    rcases List.mem_cons.mp hx with rfl | hx
    · exact sz
    · exact hz x hx
theorem row_tame {b : Nat} {us : List T} {m : Int} (h : isRow (.tup us) m = true) (hd : tame b (.tup us) = true) : (us.length : Int) = m ∧ ∃ zs : List Rat, us = zs.map rT ∧ ∀ z ∈ zs, Sz b z := by
  simp only [isRow, Bool.and_eq_true, decide_eq_true_eq] at h
  refine ⟨h.1, ?_⟩
  exact frs_tame h.2 (tame_tup hd).2
theorem any_out (rs : Rm) (zs : List Rat) : ((rs.zip (zs.map rT)).any fun p => ltF p.2 (rT p.1.1) || ltF (rT p.1.2) p.2) = (rs.zip zs).any outB := by
  rw [List.zip_map_right, List.any_map]
  congr 1
  funext p
  simp only [Function.comp, Prod.map, id, ltF_rT, outB]
/-- a room such as is judged with -/
def RmP (rs : Rm) : Prop := rs.length ≤ 10 ∧ ∀ p ∈ rs, Sz 900 p.1 ∧ Sz 900 p.2
def spIsPlace : TSp := fun ts S R X => ∃ rs t, ts = [roomT rs, t] ∧ RmP rs ∧ tame 900 t = true ∧ R (.bl (isPlace rs t)) S
theorem zip_lv (rs : Rm) (zs : List Rat) : ((rs.map lvT).zip (zs.map rT)).map (fun p => T.tup [p.1, p.2]) = (rs.zip zs).map fun p => .tup [lvT p.1, rT p.2] := zip_tt lvT rT rs zs
theorem zip_vl (rs : Rm) (zs : List Rat) : ((zs.map rT).zip (rs.map lvT)).map (fun p => T.tup [p.1, p.2]) = (zs.zip rs).map fun p => .tup [rT p.1, lvT p.2] := zip_tt rT lvT zs rs
theorem w_isPlace (G : Gx) (N : List Str) (hN : N.length = 5) {x0 : Str} (h0 : G.fns[0]? = some (x0, spLess)) {x1 : Str} (h1 : G.fns[1]? = some (x1, spRow)) (ts : List T) (S : Sto) (R : RP) (X : XP) (h : spIsPlace ts S R X) : ts.length = 2 ∧ wS b_is_place G (startE N ts) S { nx := fun _ S' => R .non S', rt := R, xx := fun _ => X } := by
  obtain ⟨rs, t, rfl, ⟨lr, hr⟩, hd, k⟩ := h
  refine ⟨rfl, ?_⟩
  unfold startE
  rw [hN]
  show wS b_is_place G [some (.tup (rs.map lvT)), some t, none, none, none] S _
  simp only [b_is_place, b_is_place_1, wS, sem, Sm.val, Sm.tst, Sm.arg, Sm.itr, boolOf, truthOf, gT, gTs, zip_tup, seq_lst, seq_tup, lst_lst, Co.sem, oInt, Bo.sem, oAdd, oSub, oMul, oDiv, oMod, Bf.sem, oLen, oAbs, oInt1, oGcd, oNeg, oIx, Mt.sem, List.getElem?_cons_zero, List.getElem?_cons_succ, List.set_cons_zero, List.set_cons_succ, setAll, frz_lst, frz_dct, tru_bl, tru_int, oEq_int, oEq_str, Bool.false_bne, Bool.true_bne, if_true, if_false, Bool.false_eq_true, reduceIte, Bool.not_true, Bool.not_false, List.cons.injEq, true_and, and_true, List.length_cons, List.length_nil, Option.some.injEq, exists_eq_left', h1, List.length_map]
  refine ⟨t, _, rfl, tame_deep hd, by omega, ?_⟩
  cases t with
  | tup us =>
    by_cases hrow : isRow (.tup us) rs.length = true
    · obtain ⟨lu, zs, rfl, hz⟩ := row_tame hrow hd
      simp only [isPlace, hrow, Bool.true_and, any_out] at k
      simp only [hrow, Bool.not_true, wS, sem, Sm.val, Sm.tst, Sm.arg, Sm.itr, boolOf, truthOf, gT, gTs, zip_tup, seq_lst, seq_tup, lst_lst, Co.sem, oInt, Bo.sem, oAdd, oSub, oMul, oDiv, oMod, Bf.sem, oLen, oAbs, oInt1, oGcd, oNeg, oIx, Mt.sem, List.getElem?_cons_zero, List.getElem?_cons_succ, List.set_cons_zero, List.set_cons_succ, setAll, frz_lst, frz_dct, tru_bl, tru_int, oEq_int, oEq_str, Bool.false_bne, Bool.true_bne, if_true, if_false, Bool.false_eq_true, reduceIte, Bool.not_true, Bool.not_false, List.cons.injEq, true_and, and_true, List.length_cons, List.length_nil, Option.some.injEq, exists_eq_left']
      simp only [b_is_place_0, wS, sem, Sm.val, Sm.tst, Sm.arg, Sm.itr, boolOf, truthOf, gT, gTs, zip_tup, seq_lst, seq_tup, lst_lst, Co.sem, oInt, Bo.sem, oAdd, oSub, oMul, oDiv, oMod, Bf.sem, oLen, oAbs, oInt1, oGcd, oNeg, oIx, Mt.sem, List.getElem?_cons_zero, List.getElem?_cons_succ, List.set_cons_zero, List.set_cons_succ, setAll, frz_lst, frz_dct, tru_bl, tru_int, oEq_int, oEq_str, Bool.false_bne, Bool.true_bne, if_true, if_false, Bool.false_eq_true, reduceIte, Bool.not_true, Bool.not_false, List.cons.injEq, true_and, and_true, List.length_cons, List.length_nil, Option.some.injEq, exists_eq_left', h0, zip_lv]
      refine wLc_of (fun p : (Rat × Rat) × Rat => .tup [lvT p.1, rT p.2]) (fun p => .bl (outB p)) trivial ?_ ?_ fun _ => ?_
      · simp only [List.length_nil, List.length_zip]
        exact Nat.le_trans (show _ ≤ 10 by omega) (by decide)
      · rintro ⟨⟨lo, hi⟩, z⟩ hp C hC
        obtain ⟨m1, m2⟩ := List.of_mem_zip hp
        have s1 := hr _ m1
        have s2 := hz _ m2
        simp only [wS, sem, Sm.val, Sm.tst, Sm.arg, Sm.itr, boolOf, truthOf, gT, gTs, zip_tup, seq_lst, seq_tup, lst_lst, Co.sem, oInt, Bo.sem, oAdd, oSub, oMul, oDiv, oMod, Bf.sem, oLen, oAbs, oInt1, oGcd, oNeg, oIx, Mt.sem, List.getElem?_cons_zero, List.getElem?_cons_succ, List.set_cons_zero, List.set_cons_succ, setAll, frz_lst, frz_dct, tru_bl, tru_int, oEq_int, oEq_str, Bool.false_bne, Bool.true_bne, if_true, if_false, Bool.false_eq_true, reduceIte, Bool.not_true, Bool.not_false, List.cons.injEq, true_and, and_true, List.length_cons, List.length_nil, Option.some.injEq, exists_eq_left', lvT, wipeE, List.map_cons, List.map_nil]
        refine ⟨z, lo, rfl, s2.up (by omega), s1.1.up (by omega), ?_⟩
        simp only [outB] at hC
        by_cases c : z < lo
        · simp only [c, decide_true, Bool.true_or] at hC ⊢
          exact hC
        · simp only [c, decide_false, Bool.false_or] at hC ⊢
          exact ⟨hi, z, rfl, s1.2.up (by omega), s2.up (by omega), hC⟩
      · simp only [List.nil_append]
        have e1 : (rs.zip zs).map (fun p => T.bl (outB p)) = ((rs.zip zs).map outB).map .bl := by rw [List.map_map]; rfl
        rw [e1]
        refine any_bls _ ?_
        have e2 : ((rs.zip zs).map outB).any id = (rs.zip zs).any outB := by rw [List.any_map]; rfl
        rw [e2]
        exact k
    · rw [Bool.not_eq_true] at hrow
      simp only [isPlace, hrow, Bool.false_and] at k
      simp only [hrow, Bool.not_false, wS, sem, Sm.val, Sm.tst, Sm.arg, Sm.itr, boolOf, truthOf, gT, gTs, zip_tup, seq_lst, seq_tup, lst_lst, Co.sem, oInt, Bo.sem, oAdd, oSub, oMul, oDiv, oMod, Bf.sem, oLen, oAbs, oInt1, oGcd, oNeg, oIx, Mt.sem, List.getElem?_cons_zero, List.getElem?_cons_succ, List.set_cons_zero, List.set_cons_succ, setAll, frz_lst, frz_dct, tru_bl, tru_int, oEq_int, oEq_str, Bool.false_bne, Bool.true_bne, if_true, if_false, Bool.false_eq_true, reduceIte, Bool.not_true, Bool.not_false, List.cons.injEq, true_and, and_true, List.length_cons, List.length_nil, Option.some.injEq, exists_eq_left']
      exact k
  | _ => exact k
def spInRoom : TSp := fun ts S R X => ∃ rs zs, ts = [roomT rs, rowT zs] ∧ RmP rs ∧ (∀ z ∈ zs, Sz 900 z) ∧ R (.bl (placeB rs zs)) S
theorem any_swap (rs : Rm) (zs : List Rat) : ((zs.zip rs).map fun p => outB (p.2, p.1)).any id = (rs.zip zs).any outB := by
  rw [List.any_map]
  induction zs generalizing rs with
  | nil => cases rs <;> rfl
  | cons z zs ih => cases rs with
    | nil => rfl
    | cons r rs =>
      simp only [List.zip_cons_cons, List.any_cons, Function.comp, id]
      rw [← ih]
theorem w_inRoom (G : Gx) (N : List Str) (hN : N.length = 5) {x0 : Str} (h0 : G.fns[0]? = some (x0, spLess)) (ts : List T) (S : Sto) (R : RP) (X : XP) (h : spInRoom ts S R X) : ts.length = 2 ∧ wS b_l_in_room G (startE N ts) S { nx := fun _ S' => R .non S', rt := R, xx := fun _ => X } := by
  obtain ⟨rs, zs, rfl, ⟨lr, hr⟩, hz, k⟩ := h
  refine ⟨rfl, ?_⟩
  unfold startE
  rw [hN]
  show wS b_l_in_room G [some (.tup (rs.map lvT)), some (.tup (zs.map rT)), none, none, none] S _
  simp only [b_l_in_room, wS, sem, Sm.val, Sm.tst, Sm.arg, Sm.itr, boolOf, truthOf, gT, gTs, zip_tup, seq_lst, seq_tup, lst_lst, Co.sem, oInt, Bo.sem, oAdd, oSub, oMul, oDiv, oMod, Bf.sem, oLen, oAbs, oInt1, oGcd, oNeg, oIx, Mt.sem, List.getElem?_cons_zero, List.getElem?_cons_succ, List.set_cons_zero, List.set_cons_succ, setAll, frz_lst, frz_dct, tru_bl, tru_int, oEq_int, oEq_str, Bool.false_bne, Bool.true_bne, if_true, if_false, Bool.false_eq_true, reduceIte, Bool.not_true, Bool.not_false, List.cons.injEq, true_and, and_true, List.length_cons, List.length_nil, Option.some.injEq, exists_eq_left', h0, zip_vl]
  refine wLc_of (fun p : Rat × (Rat × Rat) => .tup [rT p.1, lvT p.2]) (fun p => .bl (outB (p.2, p.1))) trivial ?_ ?_ fun _ => ?_
  · simp only [List.length_nil, List.length_zip]
    exact Nat.le_trans (show _ ≤ 10 by omega) (by decide)
  · rintro ⟨z, lo, hi⟩ hp C hC
    obtain ⟨m2, m1⟩ := List.of_mem_zip hp
    have s1 := hr _ m1
    have s2 := hz _ m2
    simp only [wS, sem, Sm.val, Sm.tst, Sm.arg, Sm.itr, boolOf, truthOf, gT, gTs, zip_tup, seq_lst, seq_tup, lst_lst, Co.sem, oInt, Bo.sem, oAdd, oSub, oMul, oDiv, oMod, Bf.sem, oLen, oAbs, oInt1, oGcd, oNeg, oIx, Mt.sem, List.getElem?_cons_zero, List.getElem?_cons_succ, List.set_cons_zero, List.set_cons_succ, setAll, frz_lst, frz_dct, tru_bl, tru_int, oEq_int, oEq_str, Bool.false_bne, Bool.true_bne, if_true, if_false, Bool.false_eq_true, reduceIte, Bool.not_true, Bool.not_false, List.cons.injEq, true_and, and_true, List.length_cons, List.length_nil, Option.some.injEq, exists_eq_left', lvT, wipeE, List.map_cons, List.map_nil]
    refine ⟨z, lo, rfl, s2.up (by omega), s1.1.up (by omega), ?_⟩
    simp only [outB] at hC
    by_cases c : z < lo
    · simp only [c, decide_true, Bool.true_or] at hC ⊢
      exact hC
    · simp only [c, decide_false, Bool.false_or] at hC ⊢
      exact ⟨hi, z, rfl, s1.2.up (by omega), s2.up (by omega), hC⟩
  · simp only [List.nil_append]
    have e1 : (zs.zip rs).map (fun p => T.bl (outB (p.2, p.1))) = ((zs.zip rs).map fun p => outB (p.2, p.1)).map .bl := by rw [List.map_map]; rfl
    rw [e1]
    refine any_bls _ ?_
    rw [any_swap]
    exact k
theorem w_placeDue (G : Gx) (N : List Str) (hN : N.length = 2) {x0 : Str} (h0 : G.fns[0]? = some (x0, spInRoom)) {x1 : Str} (h1 : G.fns[1]? = some (x1, spLRow)) (ts : List T) (S : Sto) (R : RP) (X : XP) (h : spIsPlace ts S R X) : ts.length = 2 ∧ wS b_l_place_due G (startE N ts) S { nx := fun _ S' => R .non S', rt := R, xx := fun _ => X } := by
  obtain ⟨rs, t, rfl, hr, hd, k⟩ := h
  refine ⟨rfl, ?_⟩
  unfold startE
  rw [hN]
  show wS b_l_place_due G [some (.tup (rs.map lvT)), some t] S _
  simp only [b_l_place_due, wS, sem, Sm.val, Sm.tst, Sm.arg, Sm.itr, boolOf, truthOf, gT, gTs, zip_tup, seq_lst, seq_tup, lst_lst, Co.sem, oInt, Bo.sem, oAdd, oSub, oMul, oDiv, oMod, Bf.sem, oLen, oAbs, oInt1, oGcd, oNeg, oIx, Mt.sem, List.getElem?_cons_zero, List.getElem?_cons_succ, List.set_cons_zero, List.set_cons_succ, setAll, frz_lst, frz_dct, tru_bl, tru_int, oEq_int, oEq_str, Bool.false_bne, Bool.true_bne, if_true, if_false, Bool.false_eq_true, reduceIte, Bool.not_true, Bool.not_false, List.cons.injEq, true_and, and_true, List.length_cons, List.length_nil, Option.some.injEq, exists_eq_left', h0, h1, List.length_map]
  refine ⟨t, _, rfl, hd, ?_⟩
  cases t with
  | tup us =>
    by_cases hrow : isRow (.tup us) rs.length = true
    · obtain ⟨lu, zs, rfl, hz⟩ := row_tame hrow hd
      simp only [isPlace, hrow, Bool.true_and, any_out] at k
      simp only [hrow]
      exact ⟨rs, zs, rfl, hr, hz, k⟩
    · rw [Bool.not_eq_true] at hrow
      simp only [isPlace, hrow, Bool.false_and] at k
      simp only [hrow]
      exact k
  | _ => exact k
end TG

set_option maxHeartbeats 4000000
namespace TG
open PySem PySem.Spec PyProof.Rows L2 TP

/-! ### books -/

def n_follows : List Str := ["book", "one", "other"]
abbrev b_follows : Stm := (.cons (.ret (.or (.cmp .eq (.var 1) (.var 2)) (.one (.cmp .inn (.var 2) (.ix (.var 0) (.var 1)))))) .nil)

def n_is_row_by_book : List Str := ["book", "turns", "one", "other"]
abbrev b_is_row_by_book : Stm := (.cons (.ret (.blt .all (.cons (.frz (.lc [("one", 2), ("other", 3)] (.tup (.cons (.nm 2) (.cons (.nm 3) .nil))) (.iZ (.frz (.sl (.var 1) .nop (.cons (.neg (.int 1)) .nil))) (.frz (.sl (.var 1) (.cons (.int 1) .nil) .nop))) (.call 0 (.cons (.var 0) (.cons (.var 2) (.cons (.var 3) .nil)))))) .nil))) .nil)
def b_is_by_book_0 : Stm := .cons (.ret (.bl true)) .nil
def b_is_by_book_1 : Stm := .cons (.asg (.nm 3) (.ix (.var 6) (.neg (.int 1)))) .nil
def b_is_by_book_2 : Stm := .cons (.ifs (.or (.not (.var 8)) (.one (.not (.call 0 (.cons (.var 0) (.cons (.var 7) .nil)))))) (.cons (.ret (.bl false)) .nil) .nil) b_is_by_book_1
def b_is_by_book_3 : Stm := .cons (.asg (.nm 8) (.ife (.cmp .isn (.var 3) .non) (.cmp .eq (.ix (.var 6) (.int 0)) (.var 1)) (.call 1 (.cons (.var 0) (.cons (.var 3) (.cons (.ix (.var 6) (.int 0)) .nil)))))) b_is_by_book_2
def b_is_by_book_4 : Stm := .cons (.asg (.nm 7) (.ife (.cmp .ne (.var 5) (.int 1)) (.frz (.bin .add (.var 6) (.frz (.sl (.var 6) .nop (.cons (.int 1) .nil))))) (.var 6))) b_is_by_book_3
def b_is_by_book_5 : Stm := .cons (.asg (.nm 6) (.frz (.lc [("turn", 9), ("_", 10)] (.tup (.cons (.nm 9) (.cons (.nm 10) .nil))) (.iA (.var 4)) (.var 9)))) b_is_by_book_4
def b_is_by_book_6 : Stm := .cons (.for_ (.tup (.cons (.nm 4) (.cons (.nm 5) .nil))) (.iA (.var 2)) b_is_by_book_5) b_is_by_book_0
def b_is_by_book_7 : Stm := .cons (.asg (.nm 3) .non) b_is_by_book_6
def n_is_by_book : List Str := ["book", "first", "plan", "last", "steps", "n", "turns", "again", "is_begun", "turn", "_"]
abbrev b_is_by_book : Stm := b_is_by_book_7
def b_l_by_book_0 : Stm := .cons (.ret (.and (.cmp .eq (.ix (.var 3) (.int 0)) (.var 1)) (.one (.blt .all (.cons (.frz (.lc [("_law_one", 6), ("_law_other", 7)] (.tup (.cons (.nm 6) (.cons (.nm 7) .nil))) (.iZ (.var 3) (.frz (.sl (.var 3) (.cons (.int 1) .nil) .nop))) (.or (.cmp .eq (.var 6) (.var 7)) (.one (.cmp .inn (.var 7) (.ix (.var 0) (.var 6))))))) .nil))))) .nil
def b_l_by_book_1 : Stm := .cons (.ifs (.cmp .eq (.var 3) (.frz (.lst .nil))) (.cons (.ret (.bl true)) .nil) .nil) b_l_by_book_0
def b_l_by_book_2 : Stm := .cons (.asg (.nm 3) (.frz (.bin .add (.var 3) (.frz (.bin .mul (.frz (.lc [("_law_k", 8), ("_law_x", 9)] (.tup (.cons (.nm 8) (.cons (.nm 9) .nil))) (.iA (.var 4)) (.var 8))) (.ife (.cmp .eq (.var 5) (.int 1)) (.int 1) (.int 2))))))) .nil
def b_l_by_book_3 : Stm := .cons (.for_ (.tup (.cons (.nm 4) (.cons (.nm 5) .nil))) (.iA (.var 2)) b_l_by_book_2) b_l_by_book_1
def b_l_by_book_4 : Stm := .cons (.asg (.nm 3) (.frz (.lst .nil))) b_l_by_book_3
def n_l_by_book : List Str := ["_law_book", "_law_first", "_law_plan", "_law_row", "_law_steps", "_law_n", "_law_one", "_law_other", "_law_k", "_law_x"]
abbrev b_l_by_book : Stm := b_l_by_book_4
def b_l_draw_book_0 : Stm := .cons (.ret (.frz (.var 2))) .nil
def b_l_draw_book_1 : Stm := .cons (.expr (.mth .append (.var 2) (.cons (.blt .tuple (.cons (.var 4) .nil)) .nil))) .nil
def b_l_draw_book_2 : Stm := .cons (.asg (.nm 4) (.frz (.lci [("_law_j", 5)] (.nm 5) (.iR1 (.var 1)) (.cmp .eq (.call 0 (.cons (.var 0) (.cons (.int 3) .nil))) (.int 0)) (.var 5)))) b_l_draw_book_1
def b_l_draw_book_3 : Stm := .cons (.for_ (.nm 3) (.iR1 (.var 1)) b_l_draw_book_2) b_l_draw_book_0
def b_l_draw_book_4 : Stm := .cons (.asg (.nm 2) (.lst .nil)) b_l_draw_book_3
def n_l_draw_book : List Str := ["_law_source", "_law_many", "_law_found", "_law_k", "_law_some", "_law_j"]
abbrev b_l_draw_book : Stm := b_l_draw_book_4
abbrev Bk := List (List Int)
def fT (fs : List Int) : T := .tup (fs.map .int)
def IsBk (x : T) (bs : Bk) : Prop := x = .lst (bs.map fT) ∨ x = .tup (bs.map fT)
theorem IsBk.seq {x : T} {bs : Bk} {S : Sto} (h : IsBk x bs) : seqOf S x = some (bs.map fT) := by
  rcases h with rfl | rfl <;> rfl
def flw (bs : Bk) (a b : Int) : Bool := decide (a = b) || (bs.getD a.toNat []).any fun j => j == b
theorem bk_at {bs : Bk} {a : Int} (h0 : 0 ≤ a) (h1 : a < bs.length) : TP.atT (bs.map fT) a = some (fT (bs.getD a.toNat [])) := by
  rw [at_nat h0 (by rw [List.length_map]; exact h1)]
  rw [List.getElem_map, List.getD_eq_getElem?_getD, List.getElem?_eq_getElem (by omega)]
  rfl
theorem ix_bk {x : T} {bs : Bk} {a : Int} {S : Sto} {R : RP} (h : IsBk x bs) (h0 : 0 ≤ a) (h1 : a < bs.length) (k : R (fT (bs.getD a.toNat [])) S) : oIx x (.int a) S R := by
  rcases h with rfl | rfl <;> exact ⟨_, bk_at h0 h1, k⟩
theorem in_int {b : Int} {fs : List Int} {S : Sto} {R : RP} (k : R (.bl (fs.any fun j => j == b)) S) : oIn false (.int b) (fT fs) S R := ⟨fs, rfl, by rw [Bool.false_xor]; exact k⟩
def spFollows : TSp := fun ts S R X => ∃ x bs a b, ts = [x, .int a, .int b] ∧ IsBk x bs ∧ 0 ≤ a ∧ a < bs.length ∧ R (.bl (flw bs a b)) S
theorem w_follows (G : Gx) (N : List Str) (hN : N.length = 3)  (ts : List T) (S : Sto) (R : RP) (X : XP) (h : spFollows ts S R X) : ts.length = 3 ∧ wS b_follows G (startE N ts) S { nx := fun _ S' => R .non S', rt := R, xx := fun _ => X } := by
  obtain ⟨x, bs, a, b, rfl, hx, a0, a1, k⟩ := h
  refine ⟨rfl, ?_⟩
  unfold startE
  rw [hN]
  show wS b_follows G [some x, some (.int a), some (.int b)] S _
  unfold flw at k
  simp only [b_follows, wS, sem, Sm.val, Sm.tst, Co.sem, oEq_int, List.getElem?_cons_zero, List.getElem?_cons_succ, Bool.false_xor]
  by_cases e : a = b
  · simp only [e, decide_true, Bool.true_or] at k ⊢
    exact k
  · simp only [e, decide_false, Bool.false_or] at k ⊢
    exact ix_bk hx a0 a1 (in_int k)
/-- each one may stand behind the one ahead -/
def chain (f : Int → Int → Bool) : List Int → Bool
  | a :: b :: r => f a b && chain f (b :: r)
  | _ => true
theorem chain_zip (f : Int → Int → Bool) : ∀ ks : List Int, (ks.zip ks.tail).all (fun p => f p.1 p.2) = chain f ks
  | [] => rfl
  | [_] => rfl
  | a :: b :: r => by
    have := chain_zip f (b :: r)
    simp only [List.tail_cons] at this
    simp only [List.tail_cons, List.zip_cons_cons, List.all_cons, chain]
    rw [← this]
theorem zip_last (ks : List Int) : (ks.take (ks.length - 1)).zip (ks.drop 1) = ks.zip ks.tail := by
  have e : min ks.length ks.tail.length = ks.length - 1 := by rw [List.length_tail]; omega
  rw [List.drop_one, List.zip_eq_zip_take_min (l₁ := ks) (l₂ := ks.tail), e, List.take_of_length_le (show ks.tail.length ≤ ks.length - 1 by rw [List.length_tail]; omega)]
theorem at_neg1 {us : List T} (h : us ≠ []) : TP.atT us (-1) = us.getLast? := by
  have : 0 < us.length := List.length_pos_iff.mpr h
  unfold TP.atT ixN
  rw [List.getLast?_eq_getElem?]
  rw [if_neg (by omega), if_pos (by omega)]
  show us[_]? = _
  congr 1
  omega
theorem cut_last {us : List T} : cutT us none (some (-1)) = us.take (us.length - 1) := by
  unfold cutT
  have e : HT.sIx us.length us.length (some (-1)) = us.length - 1 := by
    show (if (-1 : Int) < 0 then ((-1 : Int) + (us.length : Int)).toNat else min (-1 : Int).toNat us.length) = _
    rw [if_pos (by omega)]
    omega
  rw [e, HT.sIx_none]
  simp
theorem cut_rest {us : List T} : cutT us (some 1) none = us.drop 1 := by
  unfold cutT
  have e : HT.sIx us.length 0 (some 1) = min 1 us.length := rfl
  rw [e, HT.sIx_none]
  cases us with
  | nil => rfl
  | cons u us => simp
theorem cut_one {us : List T} : cutT us none (some 1) = us.take 1 := by
  unfold cutT
  have e : HT.sIx us.length us.length (some 1) = min 1 us.length := rfl
  rw [e, HT.sIx_none]
  cases us with
  | nil => rfl
  | cons u us => simp
def InB (bs : Bk) (ks : List Int) : Prop := ∀ k ∈ ks, 0 ≤ k ∧ k < bs.length
theorem lst_ints (ks : List Int) : ((ks.map T.int).zip (ks.map T.int)) = (ks.zip ks).map fun p => (T.int p.1, T.int p.2) := by rw [List.zip_map]; rfl
theorem zip_ints (xs ys : List Int) : ((xs.map T.int).zip (ys.map T.int)).map (fun p => T.tup [p.1, p.2]) = (xs.zip ys).map fun p => .tup [.int p.1, .int p.2] := zip_tt T.int T.int xs ys
def spRowBy : TSp := fun ts S R X => ∃ x bs ks, ts = [x, .lst (ks.map .int)] ∧ IsBk x bs ∧ InB bs ks ∧ ks.length ≤ 1000 ∧ R (.bl (chain (flw bs) ks)) S
theorem zip_lst {S : Sto} {ts us : List T} {R : List T → (Sto → Prop) → Sto → Prop} : zipK S (.lst ts) (.lst us) R = R ((ts.zip us).map fun p => .tup [p.1, p.2]) (fun S' => True ∧ True) S := rfl
theorem w_rowBy (G : Gx) (N : List Str) (hN : N.length = 4) {x0 : Str} (h0 : G.fns[0]? = some (x0, spFollows)) (ts : List T) (S : Sto) (R : RP) (X : XP) (h : spRowBy ts S R X) : ts.length = 2 ∧ wS b_is_row_by_book G (startE N ts) S { nx := fun _ S' => R .non S', rt := R, xx := fun _ => X } := by
  obtain ⟨x, bs, ks, rfl, hx, hk, lk, k⟩ := h
  refine ⟨rfl, ?_⟩
  unfold startE
  rw [hN]
  show wS b_is_row_by_book G [some x, some (.lst (ks.map .int)), none, none] S _
  simp only [b_is_row_by_book, wS, sem, Sm.val, Sm.tst, Sm.arg, Sm.itr, boolOf, truthOf, gT, gTs, zip_tup, seq_lst, seq_tup, lst_lst, Co.sem, oInt, Bo.sem, oAdd, oSub, oMul, oDiv, oMod, Bf.sem, oLen, oAbs, oInt1, oGcd, oNeg, oIx, Mt.sem, List.getElem?_cons_zero, List.getElem?_cons_succ, List.set_cons_zero, List.set_cons_succ, setAll, frz_lst, frz_dct, tru_bl, tru_int, oEq_int, oEq_str, Bool.false_bne, Bool.true_bne, if_true, if_false, Bool.false_eq_true, reduceIte, Bool.not_true, Bool.not_false, List.cons.injEq, true_and, and_true, List.length_cons, List.length_nil, Option.some.injEq, exists_eq_left', slP, oSl, h0, cut_last, cut_rest, zip_lst]
  intro _ _
  rw [List.length_map, ← List.map_take, ← List.map_drop, zip_ints, zip_last]
  refine wLc_of (fun p : Int × Int => .tup [.int p.1, .int p.2]) (fun p => .bl (flw bs p.1 p.2)) trivial ?_ ?_ fun _ => ?_
  · simp only [List.length_nil, List.length_zip]
    exact Nat.le_trans (show _ ≤ 1000 by omega) (by decide)
  · rintro ⟨a, b⟩ hp C hC
    obtain ⟨m1, m2⟩ := List.of_mem_zip hp
    simp only [wS, sem, Sm.val, Sm.tst, Sm.arg, Sm.itr, boolOf, truthOf, gT, gTs, zip_tup, seq_lst, seq_tup, lst_lst, Co.sem, oInt, Bo.sem, oAdd, oSub, oMul, oDiv, oMod, Bf.sem, oLen, oAbs, oInt1, oGcd, oNeg, oIx, Mt.sem, List.getElem?_cons_zero, List.getElem?_cons_succ, List.set_cons_zero, List.set_cons_succ, setAll, frz_lst, frz_dct, tru_bl, tru_int, oEq_int, oEq_str, Bool.false_bne, Bool.true_bne, if_true, if_false, Bool.false_eq_true, reduceIte, Bool.not_true, Bool.not_false, List.cons.injEq, true_and, and_true, List.length_cons, List.length_nil, Option.some.injEq, exists_eq_left', wipeE, List.map_cons, List.map_nil]
    exact ⟨x, bs, a, b, rfl, hx, (hk a m1).1, (hk a m1).2, hC⟩
  · simp only [List.nil_append]
    have e1 : (ks.zip ks.tail).map (fun p : Int × Int => T.bl (flw bs p.1 p.2)) = ((ks.zip ks.tail).map fun p => flw bs p.1 p.2).map .bl := by rw [List.map_map]; rfl
    rw [e1]
    refine all_bls _ ?_
    have e2 : ((ks.zip ks.tail).map fun p => flw bs p.1 p.2).all id = chain (flw bs) ks := by rw [List.all_map, ← chain_zip]; rfl
    rw [e2]
    exact k
/-! ### plans by a book -/
def turnsOf (l : Lap) : List Int := l.1.map (·.1)
def againOf (l : Lap) : List Int := if l.2 = some 1 then turnsOf l else turnsOf l ++ (turnsOf l).take 1
def beg (bs : Bk) (first : Int) : Option Int → Int → Bool
  | none, h => decide (h = first)
  | some l, h => flw bs l h
def byB (bs : Bk) (first : Int) : Option Int → List Lap → Bool
  | _, [] => true
  | last, l :: r => beg bs first last ((turnsOf l).headD 0) && chain (flw bs) (againOf l) && byB bs first ((turnsOf l).getLast?) r
def WfL (bs : Bk) (l : Lap) : Prop := l.1 ≠ [] ∧ l.1.length ≤ 45 ∧ InB bs (turnsOf l)
def WfP (bs : Bk) (ls : List Lap) : Prop := ls.length ≤ 45 ∧ ∀ l ∈ ls, WfL bs l
def spByBook : TSp := fun ts S R X => ∃ x bs first ls, ts = [x, .int first, planT ls] ∧ IsBk x bs ∧ WfP bs ls ∧ R (.bl (byB bs first none ls)) S
def optT : Option Int → T
  | some n => .int n
  | none => .non
theorem n_one (n : Option Int) : (n = some 1) ↔ lapN n = .int 1 := by
  cases n with
  | none => simp [lapN]
  | some n => simp [lapN]
theorem oEq_n {neg : Bool} {n : Option Int} {S : Sto} {R : RP} (k : R (.bl (neg ^^ decide (n = some 1))) S) : oEq neg (lapN n) (.int 1) S R :=
  oEq_gen (m := 0) (by omega) (by cases n <;> rfl) rfl (by rw [decide_eq_true_eq]; exact n_one n) k
theorem sem_isn {x : T} {S : Sto} {R : RP} : oIsN false x .non S R = R (.bl (isNon x)) S := by simp only [oIsN, Bool.false_xor]
theorem w_byBook (G : Gx) (N : List Str) (hN : N.length = 11) {x0 : Str} (h0 : G.fns[0]? = some (x0, spRowBy)) {x1 : Str} (h1 : G.fns[1]? = some (x1, spFollows)) (ts : List T) (S : Sto) (R : RP) (X : XP) (h : spByBook ts S R X) : ts.length = 3 ∧ wS b_is_by_book G (startE N ts) S { nx := fun _ S' => R .non S', rt := R, xx := fun _ => X } := by
  obtain ⟨x, bs, first, ls, rfl, hx, ⟨ll, hl⟩, k⟩ := h
  refine ⟨rfl, ?_⟩
  unfold startE
  rw [hN]
  show wS b_is_by_book G [some x, some (.int first), some (.tup (ls.map lapT)), none, none, none, none, none, none, none, none] S _
  simp only [b_is_by_book, b_is_by_book_7, wS, sem, Sm.val, Sm.tst, Sm.arg, Sm.itr, boolOf, truthOf, gT, gTs, zip_tup, seq_lst, seq_tup, lst_lst, Co.sem, oInt, Bo.sem, oAdd, oSub, oMul, oDiv, oMod, Bf.sem, oLen, oAbs, oInt1, oGcd, oNeg, oIx, Mt.sem, List.getElem?_cons_zero, List.getElem?_cons_succ, List.set_cons_zero, List.set_cons_succ, setAll, frz_lst, frz_dct, tru_bl, tru_int, oEq_int, oEq_str, Bool.false_bne, Bool.true_bne, if_true, if_false, Bool.false_eq_true, reduceIte, Bool.not_true, Bool.not_false, List.cons.injEq, true_and, and_true, List.length_cons, List.length_nil, Option.some.injEq, exists_eq_left']
  simp only [b_is_by_book_6, wS, sem, Sm.val, Sm.tst, Sm.arg, Sm.itr, boolOf, truthOf, gT, gTs, zip_tup, seq_lst, seq_tup, lst_lst, Co.sem, oInt, Bo.sem, oAdd, oSub, oMul, oDiv, oMod, Bf.sem, oLen, oAbs, oInt1, oGcd, oNeg, oIx, Mt.sem, List.getElem?_cons_zero, List.getElem?_cons_succ, List.set_cons_zero, List.set_cons_succ, setAll, frz_lst, frz_dct, tru_bl, tru_int, oEq_int, oEq_str, Bool.false_bne, Bool.true_bne, if_true, if_false, Bool.false_eq_true, reduceIte, Bool.not_true, Bool.not_false, List.cons.injEq, true_and, and_true, List.length_cons, List.length_nil, Option.some.injEq, exists_eq_left']
  refine wFor_by (fun i e s => s = S ∧ ∃ (last : Option Int) (a4 a5 a6 a7 a8 : Option T), e = [some x, some (.int first), some (.tup (ls.map lapT)), some (optT last), a4, a5, a6, a7, a8, none, none] ∧ byB bs first last (ls.drop i) = byB bs first none ls ∧ ∀ l, last = some l → 0 ≤ l ∧ l < bs.length) (fun _ _ _ _ => trivial) ?_ ?_ ⟨rfl, none, _, _, _, _, _, rfl, rfl, fun l e => by cases e⟩
  · rintro i t e s' C ht ⟨rfl, last, a4, a5, a6, a7, a8, rfl, hb, hin⟩ hC
    rw [List.getElem?_map] at ht
    obtain ⟨⟨ps, n⟩, hi, rfl⟩ := Option.map_eq_some_iff.mp ht
    obtain ⟨hne, l45, hks⟩ := hl _ (List.mem_of_getElem? hi)
    have ed : ls.drop i = (ps, n) :: ls.drop (i + 1) := by
      have := (List.getElem?_eq_some_iff.mp hi)
      rw [List.drop_eq_getElem_cons this.1, this.2]
    rw [ed] at hb
    simp only [byB] at hb
    obtain ⟨p, rest, rfl⟩ : ∃ p rest, ps = p :: rest := by
      cases ps with
      | nil => exact absurd rfl hne
      | cons p r => exact ⟨p, r, rfl⟩
    generalize eks : turnsOf (p :: rest, n) = ks at *
    have elk : ks.length ≤ 45 := by rw [← eks]; unfold turnsOf; rw [List.length_map]; exact l45
    have ehd : ks = p.1 :: rest.map (·.1) := by rw [← eks]; rfl
    simp only [lapT, b_is_by_book_5, wS, sem, Sm.val, Sm.tst, Sm.arg, Sm.itr, boolOf, truthOf, gT, gTs, zip_tup, seq_lst, seq_tup, lst_lst, Co.sem, oInt, Bo.sem, oAdd, oSub, oMul, oDiv, oMod, Bf.sem, oLen, oAbs, oInt1, oGcd, oNeg, oIx, Mt.sem, List.getElem?_cons_zero, List.getElem?_cons_succ, List.set_cons_zero, List.set_cons_succ, setAll, frz_lst, frz_dct, tru_bl, tru_int, oEq_int, oEq_str, Bool.false_bne, Bool.true_bne, if_true, if_false, Bool.false_eq_true, reduceIte, Bool.not_true, Bool.not_false, List.cons.injEq, true_and, and_true, List.length_cons, List.length_nil, Option.some.injEq, exists_eq_left', stepsT]
    refine wLc_of stT (fun p : TG.St => .int p.1) trivial (by simp at l45 ⊢; exact Nat.le_trans (show _ ≤ 45 by omega) (by decide)) ?_ fun _ => ?_
    · rintro ⟨y, q⟩ _ C3 hC3
      show gT _ (.tup [.int y, rT q]) _ _ _
      simp only [wS, sem, Sm.val, Sm.tst, Sm.arg, Sm.itr, boolOf, truthOf, gT, gTs, zip_tup, seq_lst, seq_tup, lst_lst, Co.sem, oInt, Bo.sem, oAdd, oSub, oMul, oDiv, oMod, Bf.sem, oLen, oAbs, oInt1, oGcd, oNeg, oIx, Mt.sem, List.getElem?_cons_zero, List.getElem?_cons_succ, List.set_cons_zero, List.set_cons_succ, setAll, frz_lst, frz_dct, tru_bl, tru_int, oEq_int, oEq_str, Bool.false_bne, Bool.true_bne, if_true, if_false, Bool.false_eq_true, reduceIte, Bool.not_true, Bool.not_false, List.cons.injEq, true_and, and_true, List.length_cons, List.length_nil, Option.some.injEq, exists_eq_left', wipeE, List.map_cons, List.map_nil]
      exact hC3
    · simp only [List.nil_append]
      have e1 : (p :: rest).map (fun p : TG.St => T.int p.1) = ks.map .int := by rw [← eks]; unfold turnsOf; rw [List.map_map]; rfl
      rw [e1]
      have hkn : ks.map T.int ≠ [] := by rw [ehd]; simp
      have hlast : ks.getLast? = some ((p :: rest).getLast (by simp)).1 := by
        rw [← eks]; unfold turnsOf
        rw [List.getLast?_map, List.getLast?_eq_some_getLast (by simp)]
        rfl
      have hhd : ks.headD 0 = p.1 := by rw [ehd]; rfl
      rw [hhd, hlast] at hb
      have hin2 : InB bs (againOf (p :: rest, n)) := by
        unfold againOf
        rw [eks]
        split
        · exact hks
        · intro y hy
          rcases List.mem_append.mp hy with h | h
          · exact hks y h
          · exact hks y (List.mem_of_mem_take h)
      have lag : (againOf (p :: rest, n)).length ≤ 1000 := by
        unfold againOf
        rw [eks]
        split
        · omega
        · rw [List.length_append, List.length_take]; omega
      have fin : wS b_is_by_book_2 G [some x, some (.int first), some (.tup (ls.map lapT)), some (optT last), some (stepsT (p :: rest)), some (lapN n), some (.lst (ks.map .int)), some (.lst ((againOf (p :: rest, n)).map .int)), some (.bl (beg bs first last p.1)), none, none] s' { nx := C, rt := R, bk := fun e' S' => wS b_is_by_book_0 G e' S' { nx := fun _ S' => R .non S', rt := R, xx := fun _ => X }, ct := C, xx := fun _ => X } := by
        simp only [b_is_by_book_2, wS, sem, Sm.val, Sm.tst, Sm.arg, Sm.itr, boolOf, truthOf, gT, gTs, zip_tup, seq_lst, seq_tup, lst_lst, Co.sem, oInt, Bo.sem, oAdd, oSub, oMul, oDiv, oMod, Bf.sem, oLen, oAbs, oInt1, oGcd, oNeg, oIx, Mt.sem, List.getElem?_cons_zero, List.getElem?_cons_succ, List.set_cons_zero, List.set_cons_succ, setAll, frz_lst, frz_dct, tru_bl, tru_int, oEq_int, oEq_str, Bool.false_bne, Bool.true_bne, if_true, if_false, Bool.false_eq_true, reduceIte, Bool.not_true, Bool.not_false, List.cons.injEq, true_and, and_true, List.length_cons, List.length_nil, Option.some.injEq, exists_eq_left', h0]
        by_cases c1 : beg bs first last p.1 = true
        · rw [c1, Bool.true_and] at hb
          simp only [c1, wS, sem, Sm.val, Sm.tst, Sm.arg, Sm.itr, boolOf, truthOf, gT, gTs, zip_tup, seq_lst, seq_tup, lst_lst, Co.sem, oInt, Bo.sem, oAdd, oSub, oMul, oDiv, oMod, Bf.sem, oLen, oAbs, oInt1, oGcd, oNeg, oIx, Mt.sem, List.getElem?_cons_zero, List.getElem?_cons_succ, List.set_cons_zero, List.set_cons_succ, setAll, frz_lst, frz_dct, tru_bl, tru_int, oEq_int, oEq_str, Bool.false_bne, Bool.true_bne, if_true, if_false, Bool.false_eq_true, reduceIte, Bool.not_true, Bool.not_false, List.cons.injEq, true_and, and_true, List.length_cons, List.length_nil, Option.some.injEq, exists_eq_left']
          refine ⟨x, bs, _, rfl, hx, hin2, lag, ?_⟩
          by_cases c2 : chain (flw bs) (againOf (p :: rest, n)) = true
          · rw [c2, Bool.true_and] at hb
            simp only [c2, wS, sem, Sm.val, Sm.tst, Sm.arg, Sm.itr, boolOf, truthOf, gT, gTs, zip_tup, seq_lst, seq_tup, lst_lst, Co.sem, oInt, Bo.sem, oAdd, oSub, oMul, oDiv, oMod, Bf.sem, oLen, oAbs, oInt1, oGcd, oNeg, oIx, Mt.sem, List.getElem?_cons_zero, List.getElem?_cons_succ, List.set_cons_zero, List.set_cons_succ, setAll, frz_lst, frz_dct, tru_bl, tru_int, oEq_int, oEq_str, Bool.false_bne, Bool.true_bne, if_true, if_false, Bool.false_eq_true, reduceIte, Bool.not_true, Bool.not_false, List.cons.injEq, true_and, and_true, List.length_cons, List.length_nil, Option.some.injEq, exists_eq_left']
            simp only [b_is_by_book_1, wS, sem, Sm.val, Sm.tst, Sm.arg, Sm.itr, boolOf, truthOf, gT, gTs, zip_tup, seq_lst, seq_tup, lst_lst, Co.sem, oInt, Bo.sem, oAdd, oSub, oMul, oDiv, oMod, Bf.sem, oLen, oAbs, oInt1, oGcd, oNeg, oIx, Mt.sem, List.getElem?_cons_zero, List.getElem?_cons_succ, List.set_cons_zero, List.set_cons_succ, setAll, frz_lst, frz_dct, tru_bl, tru_int, oEq_int, oEq_str, Bool.false_bne, Bool.true_bne, if_true, if_false, Bool.false_eq_true, reduceIte, Bool.not_true, Bool.not_false, List.cons.injEq, true_and, and_true, List.length_cons, List.length_nil, Option.some.injEq, exists_eq_left']
            refine ⟨.int ((p :: rest).getLast (by simp)).1, by rw [at_neg1 hkn, List.getLast?_map, hlast]; rfl, ?_⟩
            refine hC _ _ ⟨rfl, some ((p :: rest).getLast (by simp)).1, _, _, _, _, _, rfl, hb, fun l el => ?_⟩
            obtain rfl := Option.some.inj el
            refine hks _ ?_
            exact List.mem_of_getLast? hlast
          · rw [Bool.not_eq_true] at c2
            rw [c2, Bool.false_and] at hb
            simp only [c2, wS, sem, Sm.val, Sm.tst, Sm.arg, Sm.itr, boolOf, truthOf, gT, gTs, zip_tup, seq_lst, seq_tup, lst_lst, Co.sem, oInt, Bo.sem, oAdd, oSub, oMul, oDiv, oMod, Bf.sem, oLen, oAbs, oInt1, oGcd, oNeg, oIx, Mt.sem, List.getElem?_cons_zero, List.getElem?_cons_succ, List.set_cons_zero, List.set_cons_succ, setAll, frz_lst, frz_dct, tru_bl, tru_int, oEq_int, oEq_str, Bool.false_bne, Bool.true_bne, if_true, if_false, Bool.false_eq_true, reduceIte, Bool.not_true, Bool.not_false, List.cons.injEq, true_and, and_true, List.length_cons, List.length_nil, Option.some.injEq, exists_eq_left']
            rw [← hb] at k
            exact k
        · rw [Bool.not_eq_true] at c1
          rw [c1, Bool.false_and] at hb
          simp only [c1, wS, sem, Sm.val, Sm.tst, Sm.arg, Sm.itr, boolOf, truthOf, gT, gTs, zip_tup, seq_lst, seq_tup, lst_lst, Co.sem, oInt, Bo.sem, oAdd, oSub, oMul, oDiv, oMod, Bf.sem, oLen, oAbs, oInt1, oGcd, oNeg, oIx, Mt.sem, List.getElem?_cons_zero, List.getElem?_cons_succ, List.set_cons_zero, List.set_cons_succ, setAll, frz_lst, frz_dct, tru_bl, tru_int, oEq_int, oEq_str, Bool.false_bne, Bool.true_bne, if_true, if_false, Bool.false_eq_true, reduceIte, Bool.not_true, Bool.not_false, List.cons.injEq, true_and, and_true, List.length_cons, List.length_nil, Option.some.injEq, exists_eq_left']
          rw [← hb] at k
          exact k
      have athd : TP.atT (ks.map T.int) 0 = some (.int p.1) := by rw [ehd]; exact at_head
      have tail : wS b_is_by_book_3 G [some x, some (.int first), some (.tup (ls.map lapT)), some (optT last), some (stepsT (p :: rest)), some (lapN n), some (.lst (ks.map .int)), some (.lst ((againOf (p :: rest, n)).map .int)), a8, none, none] s' { nx := C, rt := R, bk := fun e' S' => wS b_is_by_book_0 G e' S' { nx := fun _ S' => R .non S', rt := R, xx := fun _ => X }, ct := C, xx := fun _ => X } := by
        simp only [b_is_by_book_3, wS, sem, Sm.val, Sm.tst, Sm.arg, Sm.itr, boolOf, truthOf, gT, gTs, zip_tup, seq_lst, seq_tup, lst_lst, Co.sem, oInt, Bo.sem, oAdd, oSub, oMul, oDiv, oMod, Bf.sem, oLen, oAbs, oInt1, oGcd, oNeg, oIx, Mt.sem, List.getElem?_cons_zero, List.getElem?_cons_succ, List.set_cons_zero, List.set_cons_succ, setAll, frz_lst, frz_dct, tru_bl, tru_int, oEq_int, oEq_str, Bool.false_bne, Bool.true_bne, if_true, if_false, Bool.false_eq_true, reduceIte, Bool.not_true, Bool.not_false, List.cons.injEq, true_and, and_true, List.length_cons, List.length_nil, Option.some.injEq, exists_eq_left', h1, sem_isn]
        cases last with
        | none =>
          simp only [optT, isNon, wS, sem, Sm.val, Sm.tst, Sm.arg, Sm.itr, boolOf, truthOf, gT, gTs, zip_tup, seq_lst, seq_tup, lst_lst, Co.sem, oInt, Bo.sem, oAdd, oSub, oMul, oDiv, oMod, Bf.sem, oLen, oAbs, oInt1, oGcd, oNeg, oIx, Mt.sem, List.getElem?_cons_zero, List.getElem?_cons_succ, List.set_cons_zero, List.set_cons_succ, setAll, frz_lst, frz_dct, tru_bl, tru_int, oEq_int, oEq_str, Bool.false_bne, Bool.true_bne, if_true, if_false, Bool.false_eq_true, reduceIte, Bool.not_true, Bool.not_false, List.cons.injEq, true_and, and_true, List.length_cons, List.length_nil, Option.some.injEq, exists_eq_left']
          refine ⟨_, athd, ?_⟩
          simp only [oEq_int, Bool.false_xor]
          exact fin
        | some l =>
          obtain ⟨i0, i1⟩ := hin l rfl
          simp only [optT, isNon, wS, sem, Sm.val, Sm.tst, Sm.arg, Sm.itr, boolOf, truthOf, gT, gTs, zip_tup, seq_lst, seq_tup, lst_lst, Co.sem, oInt, Bo.sem, oAdd, oSub, oMul, oDiv, oMod, Bf.sem, oLen, oAbs, oInt1, oGcd, oNeg, oIx, Mt.sem, List.getElem?_cons_zero, List.getElem?_cons_succ, List.set_cons_zero, List.set_cons_succ, setAll, frz_lst, frz_dct, tru_bl, tru_int, oEq_int, oEq_str, Bool.false_bne, Bool.true_bne, if_true, if_false, Bool.false_eq_true, reduceIte, Bool.not_true, Bool.not_false, List.cons.injEq, true_and, and_true, List.length_cons, List.length_nil, Option.some.injEq, exists_eq_left']
          exact ⟨_, athd, x, bs, l, p.1, rfl, hx, i0, i1, fin⟩
      simp only [b_is_by_book_4, wS, sem, Sm.val, Sm.tst, Sm.arg, Sm.itr, boolOf, truthOf, gT, gTs, zip_tup, seq_lst, seq_tup, lst_lst, Co.sem, oInt, Bo.sem, oAdd, oSub, oMul, oDiv, oMod, Bf.sem, oLen, oAbs, oInt1, oGcd, oNeg, oIx, Mt.sem, List.getElem?_cons_zero, List.getElem?_cons_succ, List.set_cons_zero, List.set_cons_succ, setAll, frz_lst, frz_dct, tru_bl, tru_int, oEq_int, oEq_str, Bool.false_bne, Bool.true_bne, if_true, if_false, Bool.false_eq_true, reduceIte, Bool.not_true, Bool.not_false, List.cons.injEq, true_and, and_true, List.length_cons, List.length_nil, Option.some.injEq, exists_eq_left']
      refine oEq_n ?_
      by_cases c : n = some 1
      · have e2 : againOf (p :: rest, n) = ks := by unfold againOf; rw [if_pos c, eks]
        rw [e2] at tail
        simp only [c, decide_true, Bool.true_xor, Bool.not_true, wS, sem, Sm.val, Sm.tst, Sm.arg, Sm.itr, boolOf, truthOf, gT, gTs, zip_tup, seq_lst, seq_tup, lst_lst, Co.sem, oInt, Bo.sem, oAdd, oSub, oMul, oDiv, oMod, Bf.sem, oLen, oAbs, oInt1, oGcd, oNeg, oIx, Mt.sem, List.getElem?_cons_zero, List.getElem?_cons_succ, List.set_cons_zero, List.set_cons_succ, setAll, frz_lst, frz_dct, tru_bl, tru_int, oEq_int, oEq_str, Bool.false_bne, Bool.true_bne, if_true, if_false, Bool.false_eq_true, reduceIte, Bool.not_true, Bool.not_false, List.cons.injEq, true_and, and_true, List.length_cons, List.length_nil, Option.some.injEq, exists_eq_left'] at tail ⊢
        exact tail
      · have e2 : againOf (p :: rest, n) = ks ++ ks.take 1 := by unfold againOf; rw [if_neg c, eks]
        rw [e2, List.map_append, List.map_take] at tail
        simp only [c, decide_false, Bool.true_xor, Bool.not_false, slP, oSl, cut_one, wS, sem, Sm.val, Sm.tst, Sm.arg, Sm.itr, boolOf, truthOf, gT, gTs, zip_tup, seq_lst, seq_tup, lst_lst, Co.sem, oInt, Bo.sem, oAdd, oSub, oMul, oDiv, oMod, Bf.sem, oLen, oAbs, oInt1, oGcd, oNeg, oIx, Mt.sem, List.getElem?_cons_zero, List.getElem?_cons_succ, List.set_cons_zero, List.set_cons_succ, setAll, frz_lst, frz_dct, tru_bl, tru_int, oEq_int, oEq_str, Bool.false_bne, Bool.true_bne, if_true, if_false, Bool.false_eq_true, reduceIte, Bool.not_true, Bool.not_false, List.cons.injEq, true_and, and_true, List.length_cons, List.length_nil, Option.some.injEq, exists_eq_left']
        intro _
        refine ⟨Nat.le_trans (show _ ≤ 1000 by rw [List.length_map, List.length_take, List.length_map]; omega) (by decide), fun _ => tail⟩
  · rintro e s' ⟨rfl, last, a4, a5, a6, a7, a8, rfl, hb, hin⟩
    simp only [b_is_by_book_0, wS, sem, Sm.val, Sm.tst, Sm.arg, Sm.itr, boolOf, truthOf, gT, gTs, zip_tup, seq_lst, seq_tup, lst_lst, Co.sem, oInt, Bo.sem, oAdd, oSub, oMul, oDiv, oMod, Bf.sem, oLen, oAbs, oInt1, oGcd, oNeg, oIx, Mt.sem, List.getElem?_cons_zero, List.getElem?_cons_succ, List.set_cons_zero, List.set_cons_succ, setAll, frz_lst, frz_dct, tru_bl, tru_int, oEq_int, oEq_str, Bool.false_bne, Bool.true_bne, if_true, if_false, Bool.false_eq_true, reduceIte, Bool.not_true, Bool.not_false, List.cons.injEq, true_and, and_true, List.length_cons, List.length_nil, Option.some.injEq, exists_eq_left']
    rw [List.length_map, List.drop_length] at hb
    rw [← hb] at k
    exact k
/-- all turns in their row, each lap twice but those done once -/
def lawRow : List Lap → List Int
  | [] => []
  | l :: r => (if l.2 = some 1 then turnsOf l else turnsOf l ++ turnsOf l) ++ lawRow r
theorem chain_app (f : Int → Int → Bool) : ∀ (a : Int) (as bs : List Int), chain f (a :: as ++ bs) = (chain f (a :: as) && match bs with
    | [] => true
    | b :: _ => f ((a :: as).getLast (by simp)) b && chain f bs)
  | a, [], [] => by simp [chain]
  | a, [], b :: bs => by simp [chain]
  | a, c :: as, bs => by
    have := chain_app f c as bs
    simp only [List.cons_append] at this ⊢
    simp only [chain]
    rw [this, Bool.and_assoc]
    congr 2
theorem law_chain (bs : Bk) (first : Int) : ∀ (ls : List Lap) (last : Option Int), (∀ l ∈ ls, l.1 ≠ []) → byB bs first last ls = match lawRow ls with
    | [] => true
    | k :: _ => beg bs first last k && chain (flw bs) (lawRow ls)
  | [], last, _ => rfl
  | (ps, n) :: r, last, h => by
    obtain ⟨p, rest, rfl⟩ : ∃ p rest, ps = p :: rest := by
      cases ps with
      | nil => exact absurd rfl (h _ (List.mem_cons_self ..))
      | cons p q => exact ⟨p, q, rfl⟩
    have ih := law_chain bs first r ((turnsOf (p :: rest, n)).getLast?) fun l hl => h l (List.mem_cons_of_mem _ hl)
    have eg : (turnsOf (p :: rest, n)).getLast? = some ((p.1 :: rest.map (·.1)).getLast (by simp)) := by
      show (p.1 :: rest.map (·.1)).getLast? = _
      rw [List.getLast?_eq_some_getLast]
    simp only [byB]
    rw [ih, eg]
    have eks : turnsOf (p :: rest, n) = p.1 :: rest.map (·.1) := rfl
    have key : ∀ (as : List Int) (L : List Int) (b : Bool), (b && chain (flw bs) (if n = some 1 then p.1 :: as else p.1 :: as ++ [p.1]) && match L with
        | [] => true
        | k :: _ => flw bs ((p.1 :: as).getLast (by simp)) k && chain (flw bs) L) = (b && chain (flw bs) ((if n = some 1 then p.1 :: as else p.1 :: as ++ (p.1 :: as)) ++ L)) := by
      intro as L b
      by_cases c : n = some 1
      · simp only [c, if_true]
        rw [chain_app, Bool.and_assoc]
      · simp only [c, if_false]
        rw [List.append_assoc, chain_app, chain_app]
        show _ = (b && (chain (flw bs) (p.1 :: as) && (flw bs ((p.1 :: as).getLast (by simp)) p.1 && chain (flw bs) (p.1 :: as ++ L))))
        rw [chain_app]
        generalize (match L with
          | [] => true
          | k :: _ => flw bs ((p.1 :: as).getLast (by simp)) k && chain (flw bs) L) = M
        show (b && (chain (flw bs) (p.1 :: as) && (flw bs ((p.1 :: as).getLast (by simp)) p.1 && true)) && M) = _
        cases b <;> cases chain (flw bs) (p.1 :: as) <;> cases flw bs ((p.1 :: as).getLast (by simp)) p.1 <;> simp
    have e3 : lawRow ((p :: rest, n) :: r) = (if n = some 1 then p.1 :: rest.map (·.1) else p.1 :: rest.map (·.1) ++ (p.1 :: rest.map (·.1))) ++ lawRow r := rfl
    have e4 : ∃ q, lawRow ((p :: rest, n) :: r) = p.1 :: q := by rw [e3]; split <;> exact ⟨_, rfl⟩
    have e5 : againOf (p :: rest, n) = if n = some 1 then p.1 :: rest.map (·.1) else p.1 :: rest.map (·.1) ++ [p.1] := rfl
    have k2 := key (rest.map (·.1)) (lawRow r) (beg bs first last p.1)
    rw [← e3, ← e5] at k2
    obtain ⟨q, hq⟩ := e4
    rw [hq] at k2 ⊢
    show (beg bs first last p.1 && chain (flw bs) (againOf (p :: rest, n)) && _) = (beg bs first last p.1 && chain (flw bs) (p.1 :: q))
    rw [← k2]
    congr 1
end TG

set_option maxHeartbeats 4000000
namespace TG
open PySem PySem.Spec PyProof.Rows L2 TP

theorem lawRow_app : ∀ a b : List Lap, lawRow (a ++ b) = lawRow a ++ lawRow b
  | [], b => rfl
  | l :: a, b => by simp only [List.cons_append, lawRow, lawRow_app a b, List.append_assoc]
theorem lawRow_len : ∀ ls : List Lap, (∀ l ∈ ls, l.1.length ≤ 45) → (lawRow ls).length ≤ 90 * ls.length
  | [], _ => by simp [lawRow]
  | l :: r, h => by
    have := lawRow_len r fun x hx => h x (by simp [hx])
    have h1 := h l (by simp)
    simp only [lawRow, List.length_append, List.length_cons]
    have e : (turnsOf l).length = l.1.length := by unfold turnsOf; rw [List.length_map]
    split
    · omega
    · rw [List.length_append]; omega
theorem lawRow_in {bs : Bk} : ∀ ls : List Lap, (∀ l ∈ ls, InB bs (turnsOf l)) → InB bs (lawRow ls)
  | [], _ => fun k hk => by cases hk
  | l :: r, h => fun k hk => by
    simp only [lawRow] at hk
    rcases List.mem_append.mp hk with hk | hk
    · have := h l (by simp)
      split at hk
      · exact this k hk
      · rcases List.mem_append.mp hk with hk | hk <;> exact this k hk
    · exact lawRow_in r (fun x hx => h x (by simp [hx])) k hk
theorem cmp_ints (ks : List Int) (n : Nat) : cmpT (n + 1) (.lst (ks.map .int)) = true := by
  show (ks.map T.int).all (cmpT n) = true
  rw [List.all_map]
  exact List.all_eq_true.mpr fun k _ => by cases n <;> rfl
theorem w_lByBook (G : Gx) (N : List Str) (hN : N.length = 10)  (ts : List T) (S : Sto) (R : RP) (X : XP) (h : spByBook ts S R X) : ts.length = 3 ∧ wS b_l_by_book G (startE N ts) S { nx := fun _ S' => R .non S', rt := R, xx := fun _ => X } := by
  obtain ⟨x, bs, first, ls, rfl, hx, ⟨ll, hl⟩, k⟩ := h
  refine ⟨rfl, ?_⟩
  unfold startE
  rw [hN]
  show wS b_l_by_book G [some x, some (.int first), some (.tup (ls.map lapT)), none, none, none, none, none, none, none] S _
  simp only [b_l_by_book, b_l_by_book_4, wS, sem, Sm.val, Sm.tst, Sm.arg, Sm.itr, boolOf, truthOf, gT, gTs, zip_tup, seq_lst, seq_tup, lst_lst, Co.sem, oInt, Bo.sem, oAdd, oSub, oMul, oDiv, oMod, Bf.sem, oLen, oAbs, oInt1, oGcd, oNeg, oIx, Mt.sem, List.getElem?_cons_zero, List.getElem?_cons_succ, List.set_cons_zero, List.set_cons_succ, setAll, frz_lst, frz_dct, tru_bl, tru_int, oEq_int, oEq_str, Bool.false_bne, Bool.true_bne, if_true, if_false, Bool.false_eq_true, reduceIte, Bool.not_true, Bool.not_false, List.cons.injEq, true_and, and_true, List.length_cons, List.length_nil, Option.some.injEq, exists_eq_left']
  refine ⟨by decide, fun _ => ?_⟩
  simp only [b_l_by_book_3, wS, sem, Sm.val, Sm.tst, Sm.arg, Sm.itr, boolOf, truthOf, gT, gTs, zip_tup, seq_lst, seq_tup, lst_lst, Co.sem, oInt, Bo.sem, oAdd, oSub, oMul, oDiv, oMod, Bf.sem, oLen, oAbs, oInt1, oGcd, oNeg, oIx, Mt.sem, List.getElem?_cons_zero, List.getElem?_cons_succ, List.set_cons_zero, List.set_cons_succ, setAll, frz_lst, frz_dct, tru_bl, tru_int, oEq_int, oEq_str, Bool.false_bne, Bool.true_bne, if_true, if_false, Bool.false_eq_true, reduceIte, Bool.not_true, Bool.not_false, List.cons.injEq, true_and, and_true, List.length_cons, List.length_nil, Option.some.injEq, exists_eq_left']
  refine wFor_by (fun i e s => s = S ∧ ∃ a4 a5, e = [some x, some (.int first), some (.tup (ls.map lapT)), some (.lst ((lawRow (ls.take i)).map .int)), a4, a5, none, none, none, none]) (fun _ _ _ _ => trivial) ?_ ?_ ⟨rfl, _, _, rfl⟩
  · rintro i t e s' C ht ⟨rfl, a4, a5, rfl⟩ hC
    rw [List.getElem?_map] at ht
    obtain ⟨⟨ps, n⟩, hi, rfl⟩ := Option.map_eq_some_iff.mp ht
    obtain ⟨hne, l45, hks⟩ := hl _ (List.mem_of_getElem? hi)
    have le := lawRow_len (ls.take i) fun l hm => (hl l (List.mem_of_mem_take hm)).2.1
    rw [List.length_take] at le
    have e2 : lawRow (ls.take (i + 1)) = lawRow (ls.take i) ++ (if n = some 1 then turnsOf (ps, n) else turnsOf (ps, n) ++ turnsOf (ps, n)) := by
      rw [List.take_add_one, hi, lawRow_app]
      simp [lawRow]
    have l45 : ps.length ≤ 45 := l45
    have lt : (turnsOf (ps, n)).length = ps.length := by unfold turnsOf; rw [List.length_map]
    simp only [lapT, b_l_by_book_2, wS, sem, Sm.val, Sm.tst, Sm.arg, Sm.itr, boolOf, truthOf, gT, gTs, zip_tup, seq_lst, seq_tup, lst_lst, Co.sem, oInt, Bo.sem, oAdd, oSub, oMul, oDiv, oMod, Bf.sem, oLen, oAbs, oInt1, oGcd, oNeg, oIx, Mt.sem, List.getElem?_cons_zero, List.getElem?_cons_succ, List.set_cons_zero, List.set_cons_succ, setAll, frz_lst, frz_dct, tru_bl, tru_int, oEq_int, oEq_str, Bool.false_bne, Bool.true_bne, if_true, if_false, Bool.false_eq_true, reduceIte, Bool.not_true, Bool.not_false, List.cons.injEq, true_and, and_true, List.length_cons, List.length_nil, Option.some.injEq, exists_eq_left', stepsT]
    refine wLc_of stT (fun p : TG.St => .int p.1) trivial (by simp; exact Nat.le_trans (show _ ≤ 45 by omega) (by decide)) ?_ fun _ => ?_
    · rintro ⟨y, q⟩ _ C3 hC3
      show gT _ (.tup [.int y, rT q]) _ _ _
      simp only [wS, sem, Sm.val, Sm.tst, Sm.arg, Sm.itr, boolOf, truthOf, gT, gTs, zip_tup, seq_lst, seq_tup, lst_lst, Co.sem, oInt, Bo.sem, oAdd, oSub, oMul, oDiv, oMod, Bf.sem, oLen, oAbs, oInt1, oGcd, oNeg, oIx, Mt.sem, List.getElem?_cons_zero, List.getElem?_cons_succ, List.set_cons_zero, List.set_cons_succ, setAll, frz_lst, frz_dct, tru_bl, tru_int, oEq_int, oEq_str, Bool.false_bne, Bool.true_bne, if_true, if_false, Bool.false_eq_true, reduceIte, Bool.not_true, Bool.not_false, List.cons.injEq, true_and, and_true, List.length_cons, List.length_nil, Option.some.injEq, exists_eq_left', wipeE, List.map_cons, List.map_nil]
      exact hC3
    · simp only [List.nil_append]
      have e1 : ps.map (fun p : TG.St => T.int p.1) = (turnsOf (ps, n)).map .int := by unfold turnsOf; rw [List.map_map]; rfl
      rw [e1]
      refine oEq_n ?_
      have fin : C [some x, some (.int first), some (.tup (ls.map lapT)), some (.lst ((lawRow (ls.take (i + 1))).map .int)), some (stepsT ps), some (lapN n), none, none, none, none] s' := hC _ _ ⟨rfl, _, _, rfl⟩
      rw [e2, List.map_append] at fin
      by_cases c : n = some 1
      · simp only [c, decide_true, Bool.false_xor, wS, sem, Sm.val, Sm.tst, Sm.arg, Sm.itr, boolOf, truthOf, gT, gTs, zip_tup, seq_lst, seq_tup, lst_lst, Co.sem, oInt, Bo.sem, oAdd, oSub, oMul, oDiv, oMod, Bf.sem, oLen, oAbs, oInt1, oGcd, oNeg, oIx, Mt.sem, List.getElem?_cons_zero, List.getElem?_cons_succ, List.set_cons_zero, List.set_cons_succ, setAll, frz_lst, frz_dct, tru_bl, tru_int, oEq_int, oEq_str, Bool.false_bne, Bool.true_bne, if_true, if_false, Bool.false_eq_true, reduceIte, Bool.not_true, Bool.not_false, List.cons.injEq, true_and, and_true, List.length_cons, List.length_nil, Option.some.injEq, exists_eq_left', if_true] at fin ⊢
        have e3 : (List.replicate (1 : Int).toNat ((turnsOf (ps, some 1)).map T.int)).flatten = (turnsOf (ps, some 1)).map T.int := by
          show (List.replicate 1 _).flatten = _
          simp
        rw [e3]
        subst c
        refine ⟨⟨by omega, by omega, ?_⟩, fun _ => ⟨?_, fun _ => fin⟩⟩
        · rw [List.length_map, lt]; exact Nat.le_trans (show _ ≤ 5000 by simp; omega) (by decide)
        · rw [List.length_map, List.length_map, lt]; exact Nat.le_trans (show _ ≤ 5000 by omega) (by decide)
      · simp only [c, decide_false, Bool.false_xor, wS, sem, Sm.val, Sm.tst, Sm.arg, Sm.itr, boolOf, truthOf, gT, gTs, zip_tup, seq_lst, seq_tup, lst_lst, Co.sem, oInt, Bo.sem, oAdd, oSub, oMul, oDiv, oMod, Bf.sem, oLen, oAbs, oInt1, oGcd, oNeg, oIx, Mt.sem, List.getElem?_cons_zero, List.getElem?_cons_succ, List.set_cons_zero, List.set_cons_succ, setAll, frz_lst, frz_dct, tru_bl, tru_int, oEq_int, oEq_str, Bool.false_bne, Bool.true_bne, if_true, if_false, Bool.false_eq_true, reduceIte, Bool.not_true, Bool.not_false, List.cons.injEq, true_and, and_true, List.length_cons, List.length_nil, Option.some.injEq, exists_eq_left', if_false] at fin ⊢
        have e3 : (List.replicate (2 : Int).toNat ((turnsOf (ps, n)).map T.int)).flatten = (turnsOf (ps, n) ++ turnsOf (ps, n)).map T.int := by
          show (List.replicate 2 _).flatten = _
          simp [List.replicate_succ]
        rw [e3]
        refine ⟨⟨by omega, by omega, ?_⟩, fun _ => ⟨?_, fun _ => fin⟩⟩
        · rw [List.length_map, lt]; exact Nat.le_trans (show _ ≤ 5000 by simp; omega) (by decide)
        · rw [List.length_map, List.length_map, List.length_append, lt]; exact Nat.le_trans (show _ ≤ 5000 by omega) (by decide)
  · rintro e s' ⟨rfl, a4, a5, rfl⟩
    rw [List.length_map, List.take_length]
    rw [law_chain bs first ls none fun l hm => (hl l hm).1] at k
    have hin := lawRow_in (bs := bs) ls fun l hm => (hl l hm).2.2
    have le := lawRow_len ls fun l hm => (hl l hm).2.1
    generalize lawRow ls = ks at *
    simp only [b_l_by_book_1, wS, sem, Sm.val, Sm.tst, Sm.arg, Sm.itr, boolOf, truthOf, gT, gTs, zip_tup, seq_lst, seq_tup, lst_lst, Co.sem, oInt, Bo.sem, oAdd, oSub, oMul, oDiv, oMod, Bf.sem, oLen, oAbs, oInt1, oGcd, oNeg, oIx, Mt.sem, List.getElem?_cons_zero, List.getElem?_cons_succ, List.set_cons_zero, List.set_cons_succ, setAll, frz_lst, frz_dct, tru_bl, tru_int, oEq_int, oEq_str, Bool.false_bne, Bool.true_bne, if_true, if_false, Bool.false_eq_true, reduceIte, Bool.not_true, Bool.not_false, List.cons.injEq, true_and, and_true, List.length_cons, List.length_nil, Option.some.injEq, exists_eq_left']
    refine ⟨by decide, fun _ => ?_⟩
    have eq1 : ∀ {R : RP}, R (.bl ks.isEmpty) s' → oEq false (.lst (ks.map .int)) (.lst []) s' R := fun {R} q => oEq_gen (m := 1) (by omega) (cmp_ints ks 0) rfl (k := ks.isEmpty) (by cases ks <;> simp) (by rw [Bool.false_xor]; exact q)
    refine eq1 ?_
    cases ks with
    | nil =>
      simp only [List.isEmpty_nil, wS, sem, Sm.val, Sm.tst, Sm.arg, Sm.itr, boolOf, truthOf, gT, gTs, zip_tup, seq_lst, seq_tup, lst_lst, Co.sem, oInt, Bo.sem, oAdd, oSub, oMul, oDiv, oMod, Bf.sem, oLen, oAbs, oInt1, oGcd, oNeg, oIx, Mt.sem, List.getElem?_cons_zero, List.getElem?_cons_succ, List.set_cons_zero, List.set_cons_succ, setAll, frz_lst, frz_dct, tru_bl, tru_int, oEq_int, oEq_str, Bool.false_bne, Bool.true_bne, if_true, if_false, Bool.false_eq_true, reduceIte, Bool.not_true, Bool.not_false, List.cons.injEq, true_and, and_true, List.length_cons, List.length_nil, Option.some.injEq, exists_eq_left']
      exact k
    | cons a r =>
      simp only [List.isEmpty_cons, wS, sem, Sm.val, Sm.tst, Sm.arg, Sm.itr, boolOf, truthOf, gT, gTs, zip_tup, seq_lst, seq_tup, lst_lst, Co.sem, oInt, Bo.sem, oAdd, oSub, oMul, oDiv, oMod, Bf.sem, oLen, oAbs, oInt1, oGcd, oNeg, oIx, Mt.sem, List.getElem?_cons_zero, List.getElem?_cons_succ, List.set_cons_zero, List.set_cons_succ, setAll, frz_lst, frz_dct, tru_bl, tru_int, oEq_int, oEq_str, Bool.false_bne, Bool.true_bne, if_true, if_false, Bool.false_eq_true, reduceIte, Bool.not_true, Bool.not_false, List.cons.injEq, true_and, and_true, List.length_cons, List.length_nil, Option.some.injEq, exists_eq_left']
      simp only [b_l_by_book_0, wS, sem, Sm.val, Sm.tst, Sm.arg, Sm.itr, boolOf, Co.sem, oIx, seq_lst, List.getElem?_cons_zero, List.getElem?_cons_succ, List.map_cons]
      refine ⟨_, at_head, ?_⟩
      simp only [oEq_int, Bool.false_xor]
      by_cases c : a = first
      · simp only [c, decide_true]
        simp only [beg, c, decide_true, Bool.true_and] at k
        simp only [wS, sem, Sm.val, Sm.tst, Sm.arg, Sm.itr, boolOf, truthOf, gT, gTs, zip_tup, seq_lst, seq_tup, lst_lst, Co.sem, oInt, Bo.sem, oAdd, oSub, oMul, oDiv, oMod, Bf.sem, oLen, oAbs, oInt1, oGcd, oNeg, oIx, Mt.sem, List.getElem?_cons_zero, List.getElem?_cons_succ, List.set_cons_zero, List.set_cons_succ, setAll, frz_lst, frz_dct, tru_bl, tru_int, oEq_int, oEq_str, Bool.false_bne, Bool.true_bne, if_true, if_false, Bool.false_eq_true, reduceIte, Bool.not_true, Bool.not_false, List.cons.injEq, true_and, and_true, List.length_cons, List.length_nil, Option.some.injEq, exists_eq_left', slP, oSl, cut_rest, zip_lst]
        intro _
        rw [← List.map_cons (f := T.int), List.drop_one, ← List.map_tail, zip_ints, List.tail_cons]
        subst c
        refine wLc_of (fun p : Int × Int => .tup [.int p.1, .int p.2]) (fun p => .bl (flw bs p.1 p.2)) trivial ?_ ?_ fun _ => ?_
        · simp only [List.length_nil, List.length_zip, List.length_cons] at le ⊢
          exact Nat.le_trans (show _ ≤ 5000 by omega) (by decide)
        · rintro ⟨u, v⟩ hp C hC
          obtain ⟨m1, m2⟩ := List.of_mem_zip hp
          obtain ⟨i0, i1⟩ := hin u m1
          simp only [gT, gTs, seq_tup, wipeE, List.map_nil, List.map_cons, List.set_cons_succ, List.set_cons_zero, oEq_int, Bool.false_xor, List.getElem?_cons_zero, List.getElem?_cons_succ]
          unfold flw at hC
          simp only at hC
          by_cases e : u = v
          · simp only [e, decide_true, Bool.true_or] at hC ⊢
            exact hC
          · simp only [e, decide_false, Bool.false_or] at hC ⊢
            exact ix_bk (R := fun t S1 => oIn false (.int v) t S1 C) hx i0 i1 (in_int hC)
        · simp only [List.nil_append]
          have e1 : ((a :: r).zip r).map (fun p : Int × Int => T.bl (flw bs p.1 p.2)) = (((a :: r).zip r).map fun p => flw bs p.1 p.2).map .bl := by rw [List.map_map]; rfl
          rw [e1]
          refine all_bls _ ?_
          have e2 : (((a :: r).zip r).map fun p => flw bs p.1 p.2).all id = chain (flw bs) (a :: r) := by
            rw [List.all_map, ← chain_zip]; rfl
          rw [e2]
          exact k
      · simp only [c, decide_false]
        simp only [beg, c, decide_false, Bool.false_and] at k
        exact k
/-! ### drawn books -/
def BkP (m : Int) (bs : Bk) : Prop := (bs.length : Int) = m ∧ ∀ fs ∈ bs, fs.length ≤ 8 ∧ ∀ k ∈ fs, 0 ≤ k ∧ k < m
def spDrawBook : TSp := fun ts S R X => ∃ s c, ∃ m : Int, ts = [.ref s, .int m] ∧ 1 ≤ m ∧ m ≤ 8 ∧ IsSrc S s c ∧ ∀ (bs : Bk) S', BkP m bs → IsSrc S' s c → KeptW S S' s c → R (.lst (bs.map fT)) S'
theorem IsSrc.rm {S : Sto} {s c p : Addr} (h : IsSrc S s c) (a : p ≠ s) (b : p ≠ c) : IsSrc (TP.rm S p) s c := by
  obtain ⟨l, m, t, cs, e1, e2, e3⟩ := h
  exact ⟨l, m, t, cs, (rm_ne (Ne.symm a)).trans e1, (rm_ne (Ne.symm b)).trans e2, e3⟩
theorem KeptW.rm {S S' : Sto} {s c p : Addr} (h : KeptW S S' s c) (n : S p = none) : KeptW S (TP.rm S' p) s c := fun b o e h1 h2 => (rm_ne fun z => by rw [z, n] at e; cases e).trans (h b o e h1 h2)
theorem w_drawBook (G : Gx) (N : List Str) (hN : N.length = 6) {x0 : Str} (h0 : G.fns[0]? = some (x0, spPick)) (ts : List T) (S : Sto) (R : RP) (X : XP) (h : spDrawBook ts S R X) : ts.length = 2 ∧ wS b_l_draw_book G (startE N ts) S { nx := fun _ S' => R .non S', rt := R, xx := fun _ => X } := by
  obtain ⟨s, c, m, rfl, m1, m8, hs, k⟩ := h
  refine ⟨rfl, ?_⟩
  unfold startE
  rw [hN]
  show wS b_l_draw_book G [some (.ref s), some (.int m), none, none, none, none] S _
  simp only [b_l_draw_book, b_l_draw_book_4, wS, sem, Sm.val, Sm.tst, Sm.arg, Sm.itr, boolOf, truthOf, gT, gTs, zip_tup, seq_lst, seq_tup, lst_lst, Co.sem, oInt, Bo.sem, oAdd, oSub, oMul, oDiv, oMod, Bf.sem, oLen, oAbs, oInt1, oGcd, oNeg, oIx, Mt.sem, List.getElem?_cons_zero, List.getElem?_cons_succ, List.set_cons_zero, List.set_cons_succ, setAll, frz_lst, frz_dct, tru_bl, tru_int, oEq_int, oEq_str, Bool.false_bne, Bool.true_bne, if_true, if_false, Bool.false_eq_true, reduceIte, Bool.not_true, Bool.not_false, List.cons.injEq, true_and, and_true, List.length_cons, List.length_nil, Option.some.injEq, exists_eq_left']
  refine ⟨by decide, fun p np => ?_⟩
  obtain ⟨n1, n2⟩ := hs.ne np
  simp only [b_l_draw_book_3, wS, sem, Sm.val, Sm.tst, Sm.arg, Sm.itr, boolOf, truthOf, gT, gTs, zip_tup, seq_lst, seq_tup, lst_lst, Co.sem, oInt, Bo.sem, oAdd, oSub, oMul, oDiv, oMod, Bf.sem, oLen, oAbs, oInt1, oGcd, oNeg, oIx, Mt.sem, List.getElem?_cons_zero, List.getElem?_cons_succ, List.set_cons_zero, List.set_cons_succ, setAll, frz_lst, frz_dct, tru_bl, tru_int, oEq_int, oEq_str, Bool.false_bne, Bool.true_bne, if_true, if_false, Bool.false_eq_true, reduceIte, Bool.not_true, Bool.not_false, List.cons.injEq, true_and, and_true, List.length_cons, List.length_nil, Option.some.injEq, exists_eq_left']
  refine ⟨by omega, ?_⟩
  refine wFor_by (fun i e s' => IsSrc s' s c ∧ KeptW S s' s c ∧ ∃ (bs : Bk) (a3 a4 : Option T), s' p = some (.lst (bs.map fT)) ∧ bs.length = i ∧ (∀ fs ∈ bs, fs.length ≤ 8 ∧ ∀ k ∈ fs, 0 ≤ k ∧ k < m) ∧ e = [some (.ref s), some (.int m), some (.ref p), a3, a4, none]) (fun _ _ _ _ => trivial) ?_ ?_ ⟨hs.put n1 n2, KeptW.new np, [], _, _, up_same, rfl, by simp, rfl⟩
  · rintro i t e s' C ht ⟨hs1, k1, bs, a3, a4, e1, lb, hb, rfl⟩ hC
    have hi := (List.getElem?_eq_some_iff.mp ht).1
    simp only [List.length_map, List.length_range] at hi
    simp only [b_l_draw_book_2, wS, sem, Sm.val, Sm.tst, Sm.arg, Sm.itr, boolOf, truthOf, gT, gTs, zip_tup, seq_lst, seq_tup, lst_lst, Co.sem, oInt, Bo.sem, oAdd, oSub, oMul, oDiv, oMod, Bf.sem, oLen, oAbs, oInt1, oGcd, oNeg, oIx, Mt.sem, List.getElem?_cons_zero, List.getElem?_cons_succ, List.set_cons_zero, List.set_cons_succ, setAll, frz_lst, frz_dct, tru_bl, tru_int, oEq_int, oEq_str, Bool.false_bne, Bool.true_bne, if_true, if_false, Bool.false_eq_true, reduceIte, Bool.not_true, Bool.not_false, List.cons.injEq, true_and, and_true, List.length_cons, List.length_nil, Option.some.injEq, exists_eq_left', h0]
    refine ⟨by omega, ?_⟩
    refine wLci_by (fun j acc S' => IsSrc S' s c ∧ TP.Kept s' S' s c ∧ acc.length ≤ j ∧ j ≤ 8 ∧ ∃ fs : List Int, acc = fs.map .int ∧ ∀ k ∈ fs, 0 ≤ k ∧ k < m) (fun _ _ _ _ => trivial) ?_ ?_ ?_ ⟨hs1, fun _ _ _ => rfl, by simp, by omega, [], rfl, by simp⟩
    · rintro j acc S2 ⟨_, _, la, l8, _⟩
      exact Nat.lt_of_le_of_lt (show acc.length ≤ 8 by omega) (by decide)
    · rintro j u acc S2 C1 C0 hu ⟨hs2, k2, la, l8, fs, rfl, hf⟩ h1 h2
      have hj := (List.getElem?_eq_some_iff.mp hu).1
      simp only [List.length_map, List.length_range] at hj
      rw [List.getElem?_map, List.getElem?_range hj] at hu
      obtain rfl := Option.some.inj hu
      simp only [wS, sem, Sm.val, Sm.tst, Sm.arg, Sm.itr, boolOf, truthOf, gT, gTs, zip_tup, seq_lst, seq_tup, lst_lst, Co.sem, oInt, Bo.sem, oAdd, oSub, oMul, oDiv, oMod, Bf.sem, oLen, oAbs, oInt1, oGcd, oNeg, oIx, Mt.sem, List.getElem?_cons_zero, List.getElem?_cons_succ, List.set_cons_zero, List.set_cons_succ, setAll, frz_lst, frz_dct, tru_bl, tru_int, oEq_int, oEq_str, Bool.false_bne, Bool.true_bne, if_true, if_false, Bool.false_eq_true, reduceIte, Bool.not_true, Bool.not_false, List.cons.injEq, true_and, and_true, List.length_cons, List.length_nil, Option.some.injEq, exists_eq_left', wipeE, List.map_cons, List.map_nil]
      refine pick_of hs2 (by omega) (by omega) fun q S3 q1 q2 hs3 k3 => ?_
      simp only [wS, sem, Sm.val, Sm.tst, Sm.arg, Sm.itr, boolOf, truthOf, gT, gTs, zip_tup, seq_lst, seq_tup, lst_lst, Co.sem, oInt, Bo.sem, oAdd, oSub, oMul, oDiv, oMod, Bf.sem, oLen, oAbs, oInt1, oGcd, oNeg, oIx, Mt.sem, List.getElem?_cons_zero, List.getElem?_cons_succ, List.set_cons_zero, List.set_cons_succ, setAll, frz_lst, frz_dct, tru_bl, tru_int, oEq_int, oEq_str, Bool.false_bne, Bool.true_bne, if_true, if_false, Bool.false_eq_true, reduceIte, Bool.not_true, Bool.not_false, List.cons.injEq, true_and, and_true, List.length_cons, List.length_nil, Option.some.injEq, exists_eq_left']
      by_cases hq : q = 0
      · simp only [hq, decide_true, wS, sem, Sm.val, Sm.tst, Sm.arg, Sm.itr, boolOf, truthOf, gT, gTs, zip_tup, seq_lst, seq_tup, lst_lst, Co.sem, oInt, Bo.sem, oAdd, oSub, oMul, oDiv, oMod, Bf.sem, oLen, oAbs, oInt1, oGcd, oNeg, oIx, Mt.sem, List.getElem?_cons_zero, List.getElem?_cons_succ, List.set_cons_zero, List.set_cons_succ, setAll, frz_lst, frz_dct, tru_bl, tru_int, oEq_int, oEq_str, Bool.false_bne, Bool.true_bne, if_true, if_false, Bool.false_eq_true, reduceIte, Bool.not_true, Bool.not_false, List.cons.injEq, true_and, and_true, List.length_cons, List.length_nil, Option.some.injEq, exists_eq_left']
        refine h1 _ _ ⟨hs3, k2.tr k3, by simp at la ⊢; omega, by omega, fs ++ [(j : Int)], by simp, fun x hx => ?_⟩
        rcases List.mem_append.mp hx with hx | hx
        · exact hf x hx
        · rw [List.mem_singleton.mp hx]; omega
      · simp only [hq, decide_false, wS, sem, Sm.val, Sm.tst, Sm.arg, Sm.itr, boolOf, truthOf, gT, gTs, zip_tup, seq_lst, seq_tup, lst_lst, Co.sem, oInt, Bo.sem, oAdd, oSub, oMul, oDiv, oMod, Bf.sem, oLen, oAbs, oInt1, oGcd, oNeg, oIx, Mt.sem, List.getElem?_cons_zero, List.getElem?_cons_succ, List.set_cons_zero, List.set_cons_succ, setAll, frz_lst, frz_dct, tru_bl, tru_int, oEq_int, oEq_str, Bool.false_bne, Bool.true_bne, if_true, if_false, Bool.false_eq_true, reduceIte, Bool.not_true, Bool.not_false, List.cons.injEq, true_and, and_true, List.length_cons, List.length_nil, Option.some.injEq, exists_eq_left']
        exact h2 _ ⟨hs3, k2.tr k3, by omega, by omega, fs, rfl, hf⟩
    · rintro acc S2 ⟨hs2, k2, la, l8, fs, rfl, hf⟩ _
      simp only [List.length_map, List.length_range] at la
      have e2 : S2 p = some (.lst (bs.map fT)) := (k2 p n1 n2).trans e1
      simp only [b_l_draw_book_1, wS, sem, Sm.val, Sm.tst, Sm.arg, Sm.itr, boolOf, truthOf, gT, gTs, zip_tup, seq_lst, seq_tup, lst_lst, Co.sem, oInt, Bo.sem, oAdd, oSub, oMul, oDiv, oMod, Bf.sem, oLen, oAbs, oInt1, oGcd, oNeg, oIx, Mt.sem, List.getElem?_cons_zero, List.getElem?_cons_succ, List.set_cons_zero, List.set_cons_succ, setAll, frz_lst, frz_dct, tru_bl, tru_int, oEq_int, oEq_str, Bool.false_bne, Bool.true_bne, if_true, if_false, Bool.false_eq_true, reduceIte, Bool.not_true, Bool.not_false, List.cons.injEq, true_and, and_true, List.length_cons, List.length_nil, Option.some.injEq, exists_eq_left', oTup]
      refine ⟨⟨p, _, rfl, e2⟩, ?_⟩
      simp only [oAppend, e2]
      refine ⟨by rw [List.length_map]; exact Nat.lt_of_le_of_lt (show bs.length ≤ 8 by omega) (by decide), hC _ _ ⟨hs2.put n1 n2, fun b o eb hb1 hb2 => ?_, bs ++ [fs], _, _, by rw [up_same, List.map_append]; rfl, by simp [lb], fun x hx => ?_, rfl⟩⟩
      · have nb : b ≠ p := fun z => by rw [z, np] at eb; cases eb
        rw [up_ne nb]
        exact k2.w b o (k1 b o eb hb1 hb2) hb1 hb2
      · rcases List.mem_append.mp hx with hx | hx
        · exact hb x hx
        · rw [List.mem_singleton.mp hx]; exact ⟨by omega, hf⟩
  · rintro e s' ⟨hs1, k1, bs, a3, a4, e1, lb, hb, rfl⟩
    simp only [List.length_map, List.length_range] at lb
    simp only [b_l_draw_book_0, wS, sem, Sm.val, Sm.tst, Sm.arg, Sm.itr, boolOf, truthOf, gT, gTs, zip_tup, seq_lst, seq_tup, lst_lst, Co.sem, oInt, Bo.sem, oAdd, oSub, oMul, oDiv, oMod, Bf.sem, oLen, oAbs, oInt1, oGcd, oNeg, oIx, Mt.sem, List.getElem?_cons_zero, List.getElem?_cons_succ, List.set_cons_zero, List.set_cons_succ, setAll, frz_lst, frz_dct, tru_bl, tru_int, oEq_int, oEq_str, Bool.false_bne, Bool.true_bne, if_true, if_false, Bool.false_eq_true, reduceIte, Bool.not_true, Bool.not_false, List.cons.injEq, true_and, and_true, List.length_cons, List.length_nil, Option.some.injEq, exists_eq_left', frzT, e1]
    exact k bs _ ⟨by omega, hb⟩ (IsSrc.rm hs1 n1 n2) (KeptW.rm k1 np)
end TG

set_option maxHeartbeats 4000000
namespace K82
open PySem PySem.Spec PyProof.Rows L2 TP TG


def n_l_lap_time : List Str := ["_law_steps", "_law_k", "_law_x"]
abbrev b_l_lap_time : Stm := (.cons (.ret (.call 0 (.cons (.frz (.lc [("_law_k", 1), ("_law_x", 2)] (.tup (.cons (.nm 1) (.cons (.nm 2) .nil))) (.iA (.var 0)) (.var 2))) .nil))) .nil)
def b_l_draw_walk_0 : Stm := .cons (.ret (.var 4)) .nil
def b_l_draw_walk_1 : Stm := .cons (.expr (.mth .append (.var 4) (.cons (.ix (.var 6) (.call 0 (.cons (.var 0) (.cons (.blt .len (.cons (.var 6) .nil)) .nil)))) .nil))) .nil
def b_l_draw_walk_2 : Stm := .cons (.asg (.nm 6) (.frz (.bin .add (.frz (.blt .list (.cons (.ix (.var 1) (.ix (.var 4) (.neg (.int 1)))) .nil))) (.frz (.lst (.cons (.ix (.var 4) (.neg (.int 1))) .nil)))))) b_l_draw_walk_1
def b_l_draw_walk_3 : Stm := .cons (.for_ (.nm 5) (.iR1 (.call 0 (.cons (.var 0) (.cons (.var 3) .nil)))) b_l_draw_walk_2) b_l_draw_walk_0
def b_l_draw_walk_4 : Stm := .cons (.asg (.nm 4) (.lst (.cons (.var 2) .nil))) b_l_draw_walk_3
def n_l_draw_walk : List Str := ["_law_source", "_law_book", "_law_first", "_law_most", "_law_found", "_law_lap", "_law_some"]
abbrev b_l_draw_walk : Stm := b_l_draw_walk_4
def b_l_draw_by_0 : Stm := .cons (.ret (.var 5)) .nil
def b_l_draw_by_1 : Stm := .cons (.asg (.nm 5) (.bin .add (.sl (.var 5) .nop (.cons (.neg (.int 1)) .nil)) (.tup (.cons (.tup (.cons (.var 4) (.cons .non .nil))) .nil)))) .nil
def b_l_draw_by_2 : Stm := .cons (.ifs (.and (.cmp .eq (.call 1 (.cons (.var 0) (.cons (.int 3) .nil))) (.int 0)) (.one (.cmp .ne (.call 0 (.cons (.var 4) .nil)) (.tup (.cons (.int 0) (.cons (.int 1) .nil)))))) b_l_draw_by_1 .nil) b_l_draw_by_0
def b_l_draw_by_3 : Stm := .cons (.asg (.nm 4) (.ix (.ix (.var 5) (.neg (.int 1))) (.int 0))) b_l_draw_by_2
def b_l_draw_by_4 : Stm := .cons (.asg (.nm 6) (.ix (.var 8) (.call 1 (.cons (.var 0) (.cons (.blt .len (.cons (.var 8) .nil)) .nil))))) .nil
def b_l_draw_by_5 : Stm := .cons (.asg (.nm 8) (.frz (.bin .add (.frz (.blt .list (.cons (.ix (.var 1) (.ix (.var 7) (.neg (.int 1)))) .nil))) (.frz (.lst (.cons (.ix (.var 7) (.neg (.int 1))) .nil)))))) b_l_draw_by_4
def b_l_draw_by_6 : Stm := .cons (.asg (.nm 5) (.bin .add (.var 5) (.tup (.cons (.tup (.cons (.var 4) (.cons (.ix (.frz (.lst (.cons (.int 1) (.cons (.int 1) (.cons (.int 2) (.cons (.int 3) (.cons (.bin .pow (.int 10) (.int 9)) .nil))))))) (.call 1 (.cons (.var 0) (.cons (.int 5) .nil)))) .nil))) .nil)))) b_l_draw_by_5
def b_l_draw_by_7 : Stm := .cons (.asg (.nm 4) (.blt .tuple (.cons (.frz (.lc [("_law_k", 9)] (.nm 9) (.iA (.var 7)) (.tup (.cons (.var 9) (.cons (.call 2 (.cons (.var 0) .nil)) .nil))))) .nil))) b_l_draw_by_6
def b_l_draw_by_8 : Stm := .cons (.subL (.var 7) (.call 1 (.cons (.var 0) (.cons (.blt .len (.cons (.var 7) .nil)) .nil))) (.call 1 (.cons (.var 0) (.cons (.blt .len (.cons (.var 1) .nil)) .nil)))) .nil
def b_l_draw_by_9 : Stm := .cons (.ifs (.cmp .eq (.call 1 (.cons (.var 0) (.cons (.int 6) .nil))) (.int 0)) b_l_draw_by_8 .nil) b_l_draw_by_7
def b_l_draw_by_10 : Stm := .cons (.asg (.nm 7) (.call 3 (.cons (.var 0) (.cons (.var 1) (.cons (.var 6) (.cons (.int 5) .nil)))))) b_l_draw_by_9
def b_l_draw_by_11 : Stm := .cons (.for_ (.nm 3) (.iR1 (.bin .add (.int 1) (.call 1 (.cons (.var 0) (.cons (.int 3) .nil))))) b_l_draw_by_10) b_l_draw_by_3
def b_l_draw_by_12 : Stm := .cons (.par [5, 6] (.cons (.tup .nil) (.cons (.var 2) .nil))) b_l_draw_by_11
def n_l_draw_by : List Str := ["_law_source", "_law_book", "_law_first", "_law_lap", "_law_steps", "_law_plan", "_law_here", "_law_walk", "_law_some", "_law_k"]
abbrev b_l_draw_by : Stm := b_l_draw_by_12
def b_the_law_0 : Stm := .cons (.ret (.cmp .eq (.frz (.bin .add (.var 3) (.frz (.lst (.cons (.call 0 (.cons (.frz (.lst (.cons (.tup (.cons (.int 1) .nil)) (.cons (.tup .nil) .nil)))) (.cons (.int 0) (.cons (.tup (.cons (.tup (.cons (.bin .add (.var 8) (.var 7)) (.cons (.int 2) .nil))) .nil)) .nil)))) .nil))))) (.frz (.lst (.cons (.bl true) (.cons (.bl false) (.cons (.bl false) (.cons (.bl true) (.cons (.bl false) .nil))))))))) .nil
def b_the_law_1 : Stm := .cons (.asg (.nm 3) (.frz (.bin .add (.var 3) (.frz (.lst (.cons (.call 0 (.cons (.frz (.lst (.cons (.tup .nil) (.cons (.tup (.cons (.int 0) .nil)) .nil)))) (.cons (.int 0) (.cons (.tup (.cons (.tup (.cons (.bin .add (.var 8) (.var 7)) (.cons (.int 1) .nil))) .nil)) .nil)))) (.cons (.call 0 (.cons (.frz (.lst (.cons (.tup .nil) (.cons (.tup .nil) .nil)))) (.cons (.int 0) (.cons (.tup (.cons (.tup (.cons (.bin .mul (.var 8) (.int 2)) (.cons .non .nil))) .nil)) .nil)))) .nil))))))) b_the_law_0
def b_the_law_2 : Stm := .cons (.asg (.nm 3) (.frz (.bin .add (.var 3) (.frz (.lst (.cons (.call 0 (.cons (.frz (.lst (.cons (.tup (.cons (.int 1) .nil)) (.cons (.tup .nil) .nil)))) (.cons (.int 0) (.cons (.tup (.cons (.tup (.cons (.var 8) (.cons (.int 1) .nil))) (.cons (.tup (.cons (.var 7) (.cons (.int 1) .nil))) (.cons (.tup (.cons (.var 8) (.cons (.int 1) .nil))) .nil)))) .nil)))) .nil)))))) b_the_law_1
def b_the_law_3 : Stm := .cons (.asg (.nm 3) (.frz (.lst (.cons (.call 0 (.cons (.frz (.lst (.cons (.tup (.cons (.int 1) .nil)) (.cons (.tup .nil) .nil)))) (.cons (.int 0) (.cons (.tup (.cons (.tup (.cons (.var 8) (.cons (.int 1) .nil))) (.cons (.tup (.cons (.var 7) (.cons (.int 1) .nil))) .nil))) .nil)))) .nil)))) b_the_law_2
def b_the_law_4 : Stm := .cons (.asg (.tup (.cons (.nm 7) (.cons (.nm 8) .nil))) (.tup (.cons (.tup (.cons (.tup (.cons (.int 1) (.cons (.tup (.cons (.int 0) (.cons (.int 1) .nil))) .nil))) .nil)) (.cons (.tup (.cons (.tup (.cons (.int 0) (.cons (.tup (.cons (.int 1) (.cons (.int 1) .nil))) .nil))) .nil)) .nil)))) b_the_law_3
def b_the_law_5 : Stm := .cons (.ifs (.cmp .ne (.blt .repr (.cons (.frz (.lst (.cons (.var 9) (.cons (.var 6) .nil)))) .nil)) (.var 11)) (.cons (.ret (.bl false)) .nil) .nil) .nil
def b_the_law_6 : Stm := .cons (.ifs (.cmp .ne (.blt .repr (.cons (.call 0 (.cons (.var 12) (.cons (.var 10) (.cons (.var 6) .nil)))) .nil)) (.blt .repr (.cons (.call 1 (.cons (.var 9) (.cons (.var 10) (.cons (.var 6) .nil)))) .nil))) (.cons (.ret (.bl false)) .nil) .nil) .nil
def b_the_law_7 : Stm := .cons (.for_ (.nm 12) (.iA (.tup (.cons (.var 9) (.cons (.blt .tuple (.cons (.var 9) .nil)) .nil)))) b_the_law_6) b_the_law_5
def b_the_law_8 : Stm := .cons (.asg (.nm 11) (.blt .repr (.cons (.frz (.lst (.cons (.var 9) (.cons (.var 6) .nil)))) .nil))) b_the_law_7
def b_the_law_9 : Stm := .cons (.for_ (.nm 6) (.iA (.var 5)) b_the_law_8) .nil
def b_the_law_10 : Stm := .cons (.asg (.nm 5) (.frz (.lst (.cons (.call 3 (.cons (.var 1) (.cons (.var 9) (.cons (.var 10) .nil)))) (.cons (.call 3 (.cons (.var 1) (.cons (.var 9) (.cons (.var 10) .nil)))) (.cons (.call 2 (.cons (.var 1) (.cons (.var 4) .nil))) (.cons (.tup .nil) .nil))))))) b_the_law_9
def b_the_law_11 : Stm := .cons (.par [9, 10] (.cons (.call 5 (.cons (.var 1) (.cons (.var 4) .nil))) (.cons (.call 4 (.cons (.var 1) (.cons (.var 4) .nil))) .nil))) b_the_law_10
def b_the_law_12 : Stm := .cons (.asg (.nm 4) (.bin .add (.int 1) (.call 4 (.cons (.var 1) (.cons (.int 5) .nil))))) b_the_law_11
def b_the_law_13 : Stm := .cons (.for_ (.nm 2) (.iR1 (.int 8)) b_the_law_12) b_the_law_4
def b_the_law_14 : Stm := .cons (.asg (.nm 1) (.call 6 (.cons (.var 0) .nil))) b_the_law_13
def n_the_law : List Str := ["_law_script", "_law_source", "_law_lap", "_law_told", "_law_many", "_law_plans", "_law_plan", "_law_none", "_law_one", "_law_book", "_law_first", "_law_held", "_law_given"]
abbrev b_the_law : Stm := b_the_law_14
def InM (m : Int) (ks : List Int) : Prop := ∀ k ∈ ks, 0 ≤ k ∧ k < m
def spWalk : TSp := fun ts S R X => ∃ s c bs, ∃ first most m : Int, ts = [.ref s, .lst (bs.map fT), .int first, .int most] ∧ IsSrc S s c ∧ BkP m bs ∧ m ≤ 8 ∧ 0 ≤ first ∧ first < m ∧ 1 ≤ most ∧ most ≤ 5 ∧ ∀ ks p S', 1 ≤ ks.length → ks.length ≤ 5 → InM m ks → S p = none → S' p = some (.lst (ks.map .int)) → IsSrc S' s c → KeptW S S' s c → R (.ref p) S'
theorem last_in {ks : List Int} {k : Int} (h : ks.getLast? = some k) : k ∈ ks := List.mem_of_getLast? h
theorem last_ex {ks : List Int} (h : 1 ≤ ks.length) : ∃ k, ks.getLast? = some k := by
  cases ks with
  | nil => simp at h
  | cons a r => exact ⟨_, List.getLast?_eq_some_getLast (by simp)⟩
theorem at_last {ks : List Int} {k : Int} (h : ks.getLast? = some k) : TP.atT (ks.map T.int) (-1) = some (.int k) := by
  have hn : ks.map T.int ≠ [] := by
    intro e
    have : ks = [] := List.map_eq_nil_iff.mp e
    rw [this] at h; cases h
  rw [at_neg1 hn, List.getLast?_map, h]; rfl
theorem BkP.at {m : Int} {bs : Bk} (h : BkP m bs) {k : Int} (k0 : 0 ≤ k) (k1 : k < m) : ∃ fs, TP.atT (bs.map fT) k = some (fT fs) ∧ fs.length ≤ 8 ∧ InM m fs := by
  have l := h.1
  have e := bk_at (bs := bs) k0 (by omega)
  refine ⟨_, e, ?_⟩
  have : bs.getD k.toNat [] ∈ bs := by
    rw [List.getD_eq_getElem?_getD, List.getElem?_eq_getElem (by omega)]
    exact List.getElem_mem _
  exact h.2 _ this
theorem w_walk (G : Gx) (N : List Str) (hN : N.length = 7) {x0 : Str} (h0 : G.fns[0]? = some (x0, spPick)) (ts : List T) (S : Sto) (R : RP) (X : XP) (h : spWalk ts S R X) : ts.length = 4 ∧ wS b_l_draw_walk G (startE N ts) S { nx := fun _ S' => R .non S', rt := R, xx := fun _ => X } := by
  obtain ⟨s, c, bs, first, most, m, rfl, hs, hb, m8, f0, f1, o1, o5, k⟩ := h
  refine ⟨rfl, ?_⟩
  unfold startE
  rw [hN]
  show wS b_l_draw_walk G [some (.ref s), some (.lst (bs.map fT)), some (.int first), some (.int most), none, none, none] S _
  simp only [b_l_draw_walk, b_l_draw_walk_4, wS, sem, Sm.val, Sm.tst, Sm.arg, Sm.itr, boolOf, truthOf, gT, gTs, zip_tup, seq_lst, seq_tup, lst_lst, Co.sem, oInt, Bo.sem, oAdd, oSub, oMul, oDiv, oMod, Bf.sem, oLen, oAbs, oInt1, oGcd, oNeg, oIx, Mt.sem, List.getElem?_cons_zero, List.getElem?_cons_succ, List.set_cons_zero, List.set_cons_succ, setAll, frz_lst, frz_dct, tru_bl, tru_int, oEq_int, oEq_str, Bool.false_bne, Bool.true_bne, if_true, if_false, Bool.false_eq_true, reduceIte, Bool.not_true, Bool.not_false, List.cons.injEq, true_and, and_true, List.length_cons, List.length_nil, Option.some.injEq, exists_eq_left']
  refine ⟨by decide, fun p np => ?_⟩
  obtain ⟨n1, n2⟩ := hs.ne np
  simp only [b_l_draw_walk_3, wS, sem, Sm.val, Sm.tst, Sm.arg, Sm.itr, boolOf, truthOf, gT, gTs, zip_tup, seq_lst, seq_tup, lst_lst, Co.sem, oInt, Bo.sem, oAdd, oSub, oMul, oDiv, oMod, Bf.sem, oLen, oAbs, oInt1, oGcd, oNeg, oIx, Mt.sem, List.getElem?_cons_zero, List.getElem?_cons_succ, List.set_cons_zero, List.set_cons_succ, setAll, frz_lst, frz_dct, tru_bl, tru_int, oEq_int, oEq_str, Bool.false_bne, Bool.true_bne, if_true, if_false, Bool.false_eq_true, reduceIte, Bool.not_true, Bool.not_false, List.cons.injEq, true_and, and_true, List.length_cons, List.length_nil, Option.some.injEq, exists_eq_left', h0]
  refine pick_of (hs.put n1 n2) o1 (by omega) fun i S1 i1 i2 hs1 k1 => ?_
  simp only
  refine ⟨by omega, ?_⟩
  have kn : KeptW S S1 s c := (KeptW.new np).tr k1.w
  refine wFor_by (fun j e s' => IsSrc s' s c ∧ KeptW S s' s c ∧ ∃ (ks : List Int) (a5 a6 : Option T), s' p = some (.lst (ks.map .int)) ∧ ks.length = j + 1 ∧ InM m ks ∧ e = [some (.ref s), some (.lst (bs.map fT)), some (.int first), some (.int most), some (.ref p), a5, a6]) (fun _ _ _ _ => trivial) ?_ ?_ ⟨hs1, kn, [first], _, _, (k1 p n1 n2).trans up_same, rfl, by intro x hx; rw [List.mem_singleton.mp hx]; exact ⟨f0, f1⟩, rfl⟩
  · rintro j t e s' C ht ⟨hs2, k2, ks, a5, a6, e2, lk, hk, rfl⟩ hC
    have hj := (List.getElem?_eq_some_iff.mp ht).1
    simp only [List.length_map, List.length_range] at hj
    obtain ⟨z, hz⟩ := last_ex (ks := ks) (by omega)
    obtain ⟨z0, z1⟩ := hk z (last_in hz)
    obtain ⟨fs, ef, lf, hf⟩ := BkP.at hb z0 z1
    simp only [b_l_draw_walk_2, wS, sem, Sm.val, Sm.tst, Sm.arg, Sm.itr, boolOf, truthOf, gT, gTs, zip_tup, seq_lst, seq_tup, lst_lst, Co.sem, oInt, Bo.sem, oAdd, oSub, oMul, oDiv, oMod, Bf.sem, oLen, oAbs, oInt1, oGcd, oNeg, oIx, Mt.sem, List.getElem?_cons_zero, List.getElem?_cons_succ, List.set_cons_zero, List.set_cons_succ, setAll, frz_lst, frz_dct, tru_bl, tru_int, oEq_int, oEq_str, Bool.false_bne, Bool.true_bne, if_true, if_false, Bool.false_eq_true, reduceIte, Bool.not_true, Bool.not_false, List.cons.injEq, true_and, and_true, List.length_cons, List.length_nil, Option.some.injEq, exists_eq_left', seq_ref e2, oList]
    refine ⟨_, at_last hz, ?_⟩
    simp only [wS, sem, Sm.val, Sm.tst, Sm.arg, Sm.itr, boolOf, truthOf, gT, gTs, zip_tup, seq_lst, seq_tup, lst_lst, Co.sem, oInt, Bo.sem, oAdd, oSub, oMul, oDiv, oMod, Bf.sem, oLen, oAbs, oInt1, oGcd, oNeg, oIx, Mt.sem, List.getElem?_cons_zero, List.getElem?_cons_succ, List.set_cons_zero, List.set_cons_succ, setAll, frz_lst, frz_dct, tru_bl, tru_int, oEq_int, oEq_str, Bool.false_bne, Bool.true_bne, if_true, if_false, Bool.false_eq_true, reduceIte, Bool.not_true, Bool.not_false, List.cons.injEq, true_and, and_true, List.length_cons, List.length_nil, Option.some.injEq, exists_eq_left']
    refine ⟨_, ef, ?_⟩
    simp only [fT, seq_tup, wS, sem, Sm.val, Sm.tst, Sm.arg, Sm.itr, boolOf, truthOf, gT, gTs, zip_tup, seq_lst, seq_tup, lst_lst, Co.sem, oInt, Bo.sem, oAdd, oSub, oMul, oDiv, oMod, Bf.sem, oLen, oAbs, oInt1, oGcd, oNeg, oIx, Mt.sem, List.getElem?_cons_zero, List.getElem?_cons_succ, List.set_cons_zero, List.set_cons_succ, setAll, frz_lst, frz_dct, tru_bl, tru_int, oEq_int, oEq_str, Bool.false_bne, Bool.true_bne, if_true, if_false, Bool.false_eq_true, reduceIte, Bool.not_true, Bool.not_false, List.cons.injEq, true_and, and_true, List.length_cons, List.length_nil, Option.some.injEq, exists_eq_left', seq_ref e2]
    intro _
    refine ⟨_, at_last hz, by decide, fun _ => ⟨Nat.le_trans (show _ ≤ 100 by rw [List.length_map]; omega) (by decide), fun _ => ?_⟩⟩
    simp only [b_l_draw_walk_1, wS, sem, Sm.val, Sm.tst, Sm.arg, Sm.itr, boolOf, truthOf, gT, gTs, zip_tup, seq_lst, seq_tup, lst_lst, Co.sem, oInt, Bo.sem, oAdd, oSub, oMul, oDiv, oMod, Bf.sem, oLen, oAbs, oInt1, oGcd, oNeg, oIx, Mt.sem, List.getElem?_cons_zero, List.getElem?_cons_succ, List.set_cons_zero, List.set_cons_succ, setAll, frz_lst, frz_dct, tru_bl, tru_int, oEq_int, oEq_str, Bool.false_bne, Bool.true_bne, if_true, if_false, Bool.false_eq_true, reduceIte, Bool.not_true, Bool.not_false, List.cons.injEq, true_and, and_true, List.length_cons, List.length_nil, Option.some.injEq, exists_eq_left', h0]
    refine ⟨⟨p, _, rfl, e2⟩, ?_⟩
    refine pick_of hs2 (by simp; omega) (by simp; omega) fun q S3 q1 q2 hs3 k3 => ?_
    have el : fs.map T.int ++ [T.int z] = (fs ++ [z]).map T.int := by simp
    simp only [el] at q2 ⊢
    obtain ⟨t, e1, e3⟩ := at_in (us := (fs ++ [z]).map T.int) q1 (by simpa using q2)
    obtain ⟨y, hy, rfl⟩ := List.mem_map.mp e3
    refine ⟨_, e1, ?_⟩
    have e4 : S3 p = some (.lst (ks.map T.int)) := (k3 p n1 n2).trans e2
    simp only [oAppend, e4]
    refine ⟨by rw [List.length_map]; exact Nat.lt_of_le_of_lt (show ks.length ≤ 100 by omega) (by decide), hC _ _ ⟨hs3.put n1 n2, fun b o eb hb1 hb2 => ?_, ks ++ [y], _, _, by rw [up_same]; simp, by simp [lk], fun x hx => ?_, rfl⟩⟩
    · have nb : b ≠ p := fun z => by rw [z, np] at eb; cases eb
      rw [up_ne nb]
      exact k3.w b o (k2 b o eb hb1 hb2) hb1 hb2
    · rcases List.mem_append.mp hx with hx | hx
      · exact hk x hx
      · rw [List.mem_singleton.mp hx]
        rcases List.mem_append.mp hy with hy | hy
        · exact hf y hy
        · rw [List.mem_singleton.mp hy]; exact ⟨z0, z1⟩
  · rintro e s' ⟨hs2, k2, ks, a5, a6, e2, lk, hk, rfl⟩
    simp only [List.length_map, List.length_range] at lk
    simp only [b_l_draw_walk_0, wS, sem, Sm.val, Sm.tst, Sm.arg, Sm.itr, boolOf, truthOf, gT, gTs, zip_tup, seq_lst, seq_tup, lst_lst, Co.sem, oInt, Bo.sem, oAdd, oSub, oMul, oDiv, oMod, Bf.sem, oLen, oAbs, oInt1, oGcd, oNeg, oIx, Mt.sem, List.getElem?_cons_zero, List.getElem?_cons_succ, List.set_cons_zero, List.set_cons_succ, setAll, frz_lst, frz_dct, tru_bl, tru_int, oEq_int, oEq_str, Bool.false_bne, Bool.true_bne, if_true, if_false, Bool.false_eq_true, reduceIte, Bool.not_true, Bool.not_false, List.cons.injEq, true_and, and_true, List.length_cons, List.length_nil, Option.some.injEq, exists_eq_left']
    exact k ks p s' (by omega) (by omega) hk np e2 hs2 k2
def spLapTime : TSp := fun ts S R X => ∃ ps : List TG.St, ts = [stepsT ps] ∧ ps.length ≤ 45 ∧ (∀ p ∈ ps, Sz 3 p.2) ∧ R (rT (timeR ps)) S
theorem w_lapTime (G : Gx) (N : List Str) (hN : N.length = 3) {x0 : Str} (h0 : G.fns[0]? = some (x0, spAll)) (ts : List T) (S : Sto) (R : RP) (X : XP) (h : spLapTime ts S R X) : ts.length = 1 ∧ wS b_l_lap_time G (startE N ts) S { nx := fun _ S' => R .non S', rt := R, xx := fun _ => X } := by
  obtain ⟨ps, rfl, lp, hp, k⟩ := h
  refine ⟨rfl, ?_⟩
  unfold startE
  rw [hN]
  show wS b_l_lap_time G [some (.tup (ps.map stT)), none, none] S _
  unfold timeR at k
  simp only [b_l_lap_time, wS, sem, Sm.val, Sm.tst, Sm.arg, Sm.itr, boolOf, truthOf, gT, gTs, zip_tup, seq_lst, seq_tup, lst_lst, Co.sem, oInt, Bo.sem, oAdd, oSub, oMul, oDiv, oMod, Bf.sem, oLen, oAbs, oInt1, oGcd, oNeg, oIx, Mt.sem, List.getElem?_cons_zero, List.getElem?_cons_succ, List.set_cons_zero, List.set_cons_succ, setAll, frz_lst, frz_dct, tru_bl, tru_int, oEq_int, oEq_str, Bool.false_bne, Bool.true_bne, if_true, if_false, Bool.false_eq_true, reduceIte, Bool.not_true, Bool.not_false, List.cons.injEq, true_and, and_true, List.length_cons, List.length_nil, Option.some.injEq, exists_eq_left', h0]
  refine wLc_of stT (fun p : TG.St => rT p.2) trivial (by simp; exact Nat.le_trans lp (by decide)) ?_ fun _ => ?_
  · rintro ⟨x, q⟩ _ C3 hC3
    show gT _ (.tup [.int x, rT q]) _ _ _
    simp only [wS, sem, Sm.val, Sm.tst, Sm.arg, Sm.itr, boolOf, truthOf, gT, gTs, zip_tup, seq_lst, seq_tup, lst_lst, Co.sem, oInt, Bo.sem, oAdd, oSub, oMul, oDiv, oMod, Bf.sem, oLen, oAbs, oInt1, oGcd, oNeg, oIx, Mt.sem, List.getElem?_cons_zero, List.getElem?_cons_succ, List.set_cons_zero, List.set_cons_succ, setAll, frz_lst, frz_dct, tru_bl, tru_int, oEq_int, oEq_str, Bool.false_bne, Bool.true_bne, if_true, if_false, Bool.false_eq_true, reduceIte, Bool.not_true, Bool.not_false, List.cons.injEq, true_and, and_true, List.length_cons, List.length_nil, Option.some.injEq, exists_eq_left', wipeE, List.map_cons, List.map_nil]
    exact hC3
  · simp only [List.nil_append]
    refine ⟨ps.map (fun p => p.2), 3, by rw [List.map_map]; rfl, fun x hx => ?_, by omega, by rw [List.length_map]; omega, k⟩
    obtain ⟨p, hp2, rfl⟩ := List.mem_map.mp hx
    exact hp p hp2
def LapQ (m : Int) (l : Lap) : Prop := 1 ≤ l.1.length ∧ l.1.length ≤ 5 ∧ (∀ p ∈ l.1, StepP m p) ∧ ∀ n, l.2 = some n → 1 ≤ n ∧ n ≤ 10 ^ 9
def PP (m : Int) (ls : List Lap) : Prop := ls.length ≤ 4 ∧ ∀ l ∈ ls, LapQ m l
def spDrawBy : TSp := fun ts S R X => ∃ s c bs, ∃ first m : Int, ts = [.ref s, .lst (bs.map fT), .int first] ∧ IsSrc S s c ∧ BkP m bs ∧ 1 ≤ m ∧ m ≤ 8 ∧ 0 ≤ first ∧ first < m ∧ ∀ ls S', PP m ls → IsSrc S' s c → KeptW S S' s c → R (planT ls) S'
theorem w_drawBy (G : Gx) (N : List Str) (hN : N.length = 10) {x0 : Str} (h0 : G.fns[0]? = some (x0, spLapTime)) {x1 : Str} (h1 : G.fns[1]? = some (x1, spPick)) {x2 : Str} (h2 : G.fns[2]? = some (x2, spDrawTime)) {x3 : Str} (h3 : G.fns[3]? = some (x3, spWalk)) (ts : List T) (S : Sto) (R : RP) (X : XP) (h : spDrawBy ts S R X) : ts.length = 3 ∧ wS b_l_draw_by G (startE N ts) S { nx := fun _ S' => R .non S', rt := R, xx := fun _ => X } := by
  obtain ⟨s, c, bs, first, m, rfl, hs, hb, m1, m8, f0, f1, k⟩ := h
  refine ⟨rfl, ?_⟩
  unfold startE
  rw [hN]
  show wS b_l_draw_by G [some (.ref s), some (.lst (bs.map fT)), some (.int first), none, none, none, none, none, none, none] S _
  simp only [b_l_draw_by, b_l_draw_by_12, wS, sem, Sm.val, Sm.tst, Sm.arg, Sm.itr, boolOf, truthOf, gT, gTs, zip_tup, seq_lst, seq_tup, lst_lst, Co.sem, oInt, Bo.sem, oAdd, oSub, oMul, oDiv, oMod, Bf.sem, oLen, oAbs, oInt1, oGcd, oNeg, oIx, Mt.sem, List.getElem?_cons_zero, List.getElem?_cons_succ, List.set_cons_zero, List.set_cons_succ, setAll, frz_lst, frz_dct, tru_bl, tru_int, oEq_int, oEq_str, Bool.false_bne, Bool.true_bne, if_true, if_false, Bool.false_eq_true, reduceIte, Bool.not_true, Bool.not_false, List.cons.injEq, true_and, and_true, List.length_cons, List.length_nil, Option.some.injEq, exists_eq_left']
  refine ⟨by decide, ?_⟩
  simp only [b_l_draw_by_11, wS, sem, Sm.val, Sm.tst, Sm.arg, Sm.itr, boolOf, truthOf, gT, gTs, zip_tup, seq_lst, seq_tup, lst_lst, Co.sem, oInt, Bo.sem, oAdd, oSub, oMul, oDiv, oMod, Bf.sem, oLen, oAbs, oInt1, oGcd, oNeg, oIx, Mt.sem, List.getElem?_cons_zero, List.getElem?_cons_succ, List.set_cons_zero, List.set_cons_succ, setAll, frz_lst, frz_dct, tru_bl, tru_int, oEq_int, oEq_str, Bool.false_bne, Bool.true_bne, if_true, if_false, Bool.false_eq_true, reduceIte, Bool.not_true, Bool.not_false, List.cons.injEq, true_and, and_true, List.length_cons, List.length_nil, Option.some.injEq, exists_eq_left', h1]
  refine pick_of hs (by omega) (by omega) fun i S1 i1 i2 hs1 k1 => ?_
  simp only
  refine ⟨by omega, ?_⟩
  refine wFor_by (fun j e s' => IsSrc s' s c ∧ KeptW S s' s c ∧ ∃ (ls : List Lap) (here : Int) (a3 a4 a7 a8 : Option T), ls.length = j ∧ (∀ l ∈ ls, LapQ m l) ∧ 0 ≤ here ∧ here < m ∧ e = [some (.ref s), some (.lst (bs.map fT)), some (.int first), a3, a4, some (planT ls), some (.int here), a7, a8, none]) (fun _ _ _ _ => trivial) ?_ ?_ ⟨hs1, k1.w, [], first, _, _, _, _, rfl, by simp, f0, f1, rfl⟩
  · rintro j t e s' C ht ⟨hs2, k2, ls, here, a3, a4, a7, a8, rfl, hl, r0, r1, rfl⟩ hC
    have hj := (List.getElem?_eq_some_iff.mp ht).1
    simp only [List.length_map, List.length_range] at hj
    simp only [b_l_draw_by_10, wS, sem, Sm.val, Sm.tst, Sm.arg, Sm.itr, boolOf, truthOf, gT, gTs, zip_tup, seq_lst, seq_tup, lst_lst, Co.sem, oInt, Bo.sem, oAdd, oSub, oMul, oDiv, oMod, Bf.sem, oLen, oAbs, oInt1, oGcd, oNeg, oIx, Mt.sem, List.getElem?_cons_zero, List.getElem?_cons_succ, List.set_cons_zero, List.set_cons_succ, setAll, frz_lst, frz_dct, tru_bl, tru_int, oEq_int, oEq_str, Bool.false_bne, Bool.true_bne, if_true, if_false, Bool.false_eq_true, reduceIte, Bool.not_true, Bool.not_false, List.cons.injEq, true_and, and_true, List.length_cons, List.length_nil, Option.some.injEq, exists_eq_left', h3]
    refine ⟨s, c, bs, here, 5, m, rfl, hs2, hb, m8, r0, r1, by omega, by omega, fun ks p S3 l1 l5 hk np e3 hs3 k3 => ?_⟩
    have npS : S p = none := k2.non hs2 np
    obtain ⟨n1, n2⟩ := hs2.ne np
    have rest : ∀ (ks : List Int) (S4 : Sto), 1 ≤ ks.length → ks.length ≤ 5 → InM m ks → S4 p = some (.lst (ks.map .int)) → IsSrc S4 s c → KeptW S S4 s c →
        wS b_l_draw_by_7 G [some (.ref s), some (.lst (bs.map fT)), some (.int first), some t, a4, some (planT ls), some (.int here), some (.ref p), a8, none] S4 { nx := C, rt := R, bk := fun e' S' => wS b_l_draw_by_3 G e' S' { nx := fun _ S' => R .non S', rt := R, xx := fun _ => X }, ct := C, xx := fun _ => X } := by
      intro ks S4 l1 l5 hk e4 hs4 k4
      simp only [b_l_draw_by_7, wS, sem, Sm.val, Sm.tst, Sm.arg, Sm.itr, boolOf, truthOf, gT, gTs, zip_tup, seq_lst, seq_tup, lst_lst, Co.sem, oInt, Bo.sem, oAdd, oSub, oMul, oDiv, oMod, Bf.sem, oLen, oAbs, oInt1, oGcd, oNeg, oIx, Mt.sem, List.getElem?_cons_zero, List.getElem?_cons_succ, List.set_cons_zero, List.set_cons_succ, setAll, frz_lst, frz_dct, tru_bl, tru_int, oEq_int, oEq_str, Bool.false_bne, Bool.true_bne, if_true, if_false, Bool.false_eq_true, reduceIte, Bool.not_true, Bool.not_false, List.cons.injEq, true_and, and_true, List.length_cons, List.length_nil, Option.some.injEq, exists_eq_left', h2, seq_ref e4, gdOf, e4]
      refine wLc_by (fun acc S' => IsSrc S' s c ∧ TP.Kept S4 S' s c ∧ acc.length ≤ ks.length ∧ ∃ ps : List TG.St, acc = ps.map stT ∧ ∀ q ∈ ps, StepP m q) (fun acc S' h => (h.2.1 p n1 n2).trans e4) (fun acc S' h => Nat.lt_of_le_of_lt (show acc.length ≤ 5 from Nat.le_trans h.2.2.1 l5) (by decide)) ?_ ?_ ⟨hs4, fun _ _ _ => rfl, by simp, [], rfl, by simp⟩
      · rintro u acc S5 C2 hu ⟨hs5, k5, la, ps, rfl, hp⟩ hlt hC2
        obtain ⟨y, hy, rfl⟩ := List.mem_map.mp hu
        simp only [wS, sem, Sm.val, Sm.tst, Sm.arg, Sm.itr, boolOf, truthOf, gT, gTs, zip_tup, seq_lst, seq_tup, lst_lst, Co.sem, oInt, Bo.sem, oAdd, oSub, oMul, oDiv, oMod, Bf.sem, oLen, oAbs, oInt1, oGcd, oNeg, oIx, Mt.sem, List.getElem?_cons_zero, List.getElem?_cons_succ, List.set_cons_zero, List.set_cons_succ, setAll, frz_lst, frz_dct, tru_bl, tru_int, oEq_int, oEq_str, Bool.false_bne, Bool.true_bne, if_true, if_false, Bool.false_eq_true, reduceIte, Bool.not_true, Bool.not_false, List.cons.injEq, true_and, and_true, List.length_cons, List.length_nil, Option.some.injEq, exists_eq_left', wipeE, List.map_cons, List.map_nil]
        refine ⟨s, c, rfl, hs5, fun q S6 hq hs6 k6 => ⟨by decide, hC2 _ S6 ⟨hs6, k5.tr k6, by simp at hlt ⊢; omega, ps ++ [(y, q)], by simp [stT], fun z hz => ?_⟩⟩⟩
        rcases List.mem_append.mp hz with hz | hz
        · exact hp z hz
        · rw [List.mem_singleton.mp hz]; exact ⟨(hk y hy).1, (hk y hy).2, hq⟩
      · rintro acc S5 ⟨hs5, k5, la, ps, rfl, hp⟩ hlen _
        simp only [List.length_map] at hlen
        simp only [oTup, wS, sem, Sm.val, Sm.tst, Sm.arg, Sm.itr, boolOf, truthOf, gT, gTs, zip_tup, seq_lst, seq_tup, lst_lst, Co.sem, oInt, Bo.sem, oAdd, oSub, oMul, oDiv, oMod, Bf.sem, oLen, oAbs, oInt1, oGcd, oNeg, oIx, Mt.sem, List.getElem?_cons_zero, List.getElem?_cons_succ, List.set_cons_zero, List.set_cons_succ, setAll, frz_lst, frz_dct, tru_bl, tru_int, oEq_int, oEq_str, Bool.false_bne, Bool.true_bne, if_true, if_false, Bool.false_eq_true, reduceIte, Bool.not_true, Bool.not_false, List.cons.injEq, true_and, and_true, List.length_cons, List.length_nil, Option.some.injEq, exists_eq_left']
        simp only [b_l_draw_by_6, wS, sem, Sm.val, Sm.tst, Sm.arg, Sm.itr, boolOf, truthOf, gT, gTs, zip_tup, seq_lst, seq_tup, lst_lst, Co.sem, oInt, Bo.sem, oAdd, oSub, oMul, oDiv, oMod, Bf.sem, oLen, oAbs, oInt1, oGcd, oNeg, oIx, Mt.sem, List.getElem?_cons_zero, List.getElem?_cons_succ, List.set_cons_zero, List.set_cons_succ, setAll, frz_lst, frz_dct, tru_bl, tru_int, oEq_int, oEq_str, Bool.false_bne, Bool.true_bne, if_true, if_false, Bool.false_eq_true, reduceIte, Bool.not_true, Bool.not_false, List.cons.injEq, true_and, and_true, List.length_cons, List.length_nil, Option.some.injEq, exists_eq_left', h1, oPow]
        refine ⟨pow_ok (by decide), by decide, fun _ => pick_of hs5 (by omega) (by omega) fun w S6 w1 w2 hs6 k6 => ?_⟩
        obtain ⟨tt, e1, e2⟩ := at_in (us := [T.int 1, T.int 1, T.int 2, T.int 3, T.int (10 ^ Int.toNat 9)]) w1 w2
        obtain ⟨n, rfl, g0, g1⟩ : ∃ n : Int, tt = .int n ∧ 1 ≤ n ∧ n ≤ 10 ^ 9 := by
          simp only [List.mem_cons, List.not_mem_nil, or_false] at e2
          rcases e2 with rfl | rfl | rfl | rfl | rfl <;> exact ⟨_, rfl, by decide, by decide⟩
        refine ⟨_, e1, by decide, by decide, ?_⟩
        rw [show planT ls = T.tup (ls.map lapT) from rfl]
        simp only [List.length_map, List.length_cons, List.length_nil]
        refine ⟨Nat.le_trans (show _ ≤ 100 by omega) (by decide), ?_⟩
        have e6 : S6 p = some (.lst (ks.map .int)) := (k6 p n1 n2).trans ((k5 p n1 n2).trans e4)
        obtain ⟨z, hz⟩ := last_ex l1
        obtain ⟨z0, z1⟩ := hk z (last_in hz)
        obtain ⟨fs, ef, lf, hf⟩ := BkP.at hb z0 z1
        simp only [b_l_draw_by_5, wS, sem, Sm.val, Sm.tst, Sm.arg, Sm.itr, boolOf, truthOf, gT, gTs, zip_tup, seq_lst, seq_tup, lst_lst, Co.sem, oInt, Bo.sem, oAdd, oSub, oMul, oDiv, oMod, Bf.sem, oLen, oAbs, oInt1, oGcd, oNeg, oIx, Mt.sem, List.getElem?_cons_zero, List.getElem?_cons_succ, List.set_cons_zero, List.set_cons_succ, setAll, frz_lst, frz_dct, tru_bl, tru_int, oEq_int, oEq_str, Bool.false_bne, Bool.true_bne, if_true, if_false, Bool.false_eq_true, reduceIte, Bool.not_true, Bool.not_false, List.cons.injEq, true_and, and_true, List.length_cons, List.length_nil, Option.some.injEq, exists_eq_left', seq_ref e6, oList]
        refine ⟨_, at_last hz, ?_⟩
        simp only [wS, sem, Sm.val, Sm.tst, Sm.arg, Sm.itr, boolOf, truthOf, gT, gTs, zip_tup, seq_lst, seq_tup, lst_lst, Co.sem, oInt, Bo.sem, oAdd, oSub, oMul, oDiv, oMod, Bf.sem, oLen, oAbs, oInt1, oGcd, oNeg, oIx, Mt.sem, List.getElem?_cons_zero, List.getElem?_cons_succ, List.set_cons_zero, List.set_cons_succ, setAll, frz_lst, frz_dct, tru_bl, tru_int, oEq_int, oEq_str, Bool.false_bne, Bool.true_bne, if_true, if_false, Bool.false_eq_true, reduceIte, Bool.not_true, Bool.not_false, List.cons.injEq, true_and, and_true, List.length_cons, List.length_nil, Option.some.injEq, exists_eq_left']
        refine ⟨_, ef, ?_⟩
        simp only [fT, seq_tup, wS, sem, Sm.val, Sm.tst, Sm.arg, Sm.itr, boolOf, truthOf, gT, gTs, zip_tup, seq_lst, seq_tup, lst_lst, Co.sem, oInt, Bo.sem, oAdd, oSub, oMul, oDiv, oMod, Bf.sem, oLen, oAbs, oInt1, oGcd, oNeg, oIx, Mt.sem, List.getElem?_cons_zero, List.getElem?_cons_succ, List.set_cons_zero, List.set_cons_succ, setAll, frz_lst, frz_dct, tru_bl, tru_int, oEq_int, oEq_str, Bool.false_bne, Bool.true_bne, if_true, if_false, Bool.false_eq_true, reduceIte, Bool.not_true, Bool.not_false, List.cons.injEq, true_and, and_true, List.length_cons, List.length_nil, Option.some.injEq, exists_eq_left', seq_ref e6]
        intro _
        refine ⟨_, at_last hz, by decide, fun _ => ⟨Nat.le_trans (show _ ≤ 100 by rw [List.length_map]; omega) (by decide), fun _ => ?_⟩⟩
        have el : fs.map T.int ++ [T.int z] = (fs ++ [z]).map T.int := by simp
        simp only [b_l_draw_by_4, wS, sem, Sm.val, Sm.tst, Sm.arg, Sm.itr, boolOf, truthOf, gT, gTs, zip_tup, seq_lst, seq_tup, lst_lst, Co.sem, oInt, Bo.sem, oAdd, oSub, oMul, oDiv, oMod, Bf.sem, oLen, oAbs, oInt1, oGcd, oNeg, oIx, Mt.sem, List.getElem?_cons_zero, List.getElem?_cons_succ, List.set_cons_zero, List.set_cons_succ, setAll, frz_lst, frz_dct, tru_bl, tru_int, oEq_int, oEq_str, Bool.false_bne, Bool.true_bne, if_true, if_false, Bool.false_eq_true, reduceIte, Bool.not_true, Bool.not_false, List.cons.injEq, true_and, and_true, List.length_cons, List.length_nil, Option.some.injEq, exists_eq_left', h1, el]
        refine pick_of hs6 (by simp; omega) (by simp; omega) fun q S7 q1 q2 hs7 k7 => ?_
        obtain ⟨t2, f1, f3⟩ := at_in (us := (fs ++ [z]).map T.int) q1 (by simpa using q2)
        obtain ⟨y, hy, rfl⟩ := List.mem_map.mp f3
        refine ⟨_, f1, hC _ _ ⟨hs7, k4.tr (k5.w.tr (k6.w.tr k7.w)), ls ++ [(ps, some n)], y, some t, some (T.tup (ps.map stT)), some (.ref p), some (.lst ((fs ++ [z]).map T.int)), by simp, fun l hm => ?_, ?_, ?_, ?_⟩⟩
        · rcases List.mem_append.mp hm with hm | hm
          · exact hl l hm
          · rw [List.mem_singleton.mp hm]
            exact ⟨show 1 ≤ ps.length by omega, show ps.length ≤ 5 by omega, hp, fun n' e => by obtain rfl := Option.some.inj e; exact ⟨g0, g1⟩⟩
        · rcases List.mem_append.mp hy with hy | hy
          · exact (hf y hy).1
          · rw [List.mem_singleton.mp hy]; exact z0
        · rcases List.mem_append.mp hy with hy | hy
          · exact (hf y hy).2
          · rw [List.mem_singleton.mp hy]; exact z1
        · rw [show planT (ls ++ [(ps, some n)]) = T.tup (ls.map lapT ++ [T.tup [T.tup (ps.map stT), T.int n]]) from by unfold planT; rw [List.map_append]; rfl]
    simp only [b_l_draw_by_9, wS, sem, Sm.val, Sm.tst, Sm.arg, Sm.itr, boolOf, truthOf, gT, gTs, zip_tup, seq_lst, seq_tup, lst_lst, Co.sem, oInt, Bo.sem, oAdd, oSub, oMul, oDiv, oMod, Bf.sem, oLen, oAbs, oInt1, oGcd, oNeg, oIx, Mt.sem, List.getElem?_cons_zero, List.getElem?_cons_succ, List.set_cons_zero, List.set_cons_succ, setAll, frz_lst, frz_dct, tru_bl, tru_int, oEq_int, oEq_str, Bool.false_bne, Bool.true_bne, if_true, if_false, Bool.false_eq_true, reduceIte, Bool.not_true, Bool.not_false, List.cons.injEq, true_and, and_true, List.length_cons, List.length_nil, Option.some.injEq, exists_eq_left', h1]
    refine pick_of hs3 (by omega) (by omega) fun w S4 w1 w2 hs4 k4 => ?_
    have e4 : S4 p = some (.lst (ks.map .int)) := (k4 p n1 n2).trans e3
    have kk4 : KeptW S S4 s c := k2.tr (k3.tr k4.w)
    simp only [wS, sem, Sm.val, Sm.tst, Sm.arg, Sm.itr, boolOf, truthOf, gT, gTs, zip_tup, seq_lst, seq_tup, lst_lst, Co.sem, oInt, Bo.sem, oAdd, oSub, oMul, oDiv, oMod, Bf.sem, oLen, oAbs, oInt1, oGcd, oNeg, oIx, Mt.sem, List.getElem?_cons_zero, List.getElem?_cons_succ, List.set_cons_zero, List.set_cons_succ, setAll, frz_lst, frz_dct, tru_bl, tru_int, oEq_int, oEq_str, Bool.false_bne, Bool.true_bne, if_true, if_false, Bool.false_eq_true, reduceIte, Bool.not_true, Bool.not_false, List.cons.injEq, true_and, and_true, List.length_cons, List.length_nil, Option.some.injEq, exists_eq_left']
    by_cases hw : w = 0
    · simp only [hw, decide_true, wS, sem, Sm.val, Sm.tst, Sm.arg, Sm.itr, boolOf, truthOf, gT, gTs, zip_tup, seq_lst, seq_tup, lst_lst, Co.sem, oInt, Bo.sem, oAdd, oSub, oMul, oDiv, oMod, Bf.sem, oLen, oAbs, oInt1, oGcd, oNeg, oIx, Mt.sem, List.getElem?_cons_zero, List.getElem?_cons_succ, List.set_cons_zero, List.set_cons_succ, setAll, frz_lst, frz_dct, tru_bl, tru_int, oEq_int, oEq_str, Bool.false_bne, Bool.true_bne, if_true, if_false, Bool.false_eq_true, reduceIte, Bool.not_true, Bool.not_false, List.cons.injEq, true_and, and_true, List.length_cons, List.length_nil, Option.some.injEq, exists_eq_left']
      simp only [b_l_draw_by_8, wS, sem, Sm.val, Sm.tst, Sm.arg, Sm.itr, boolOf, truthOf, gT, gTs, zip_tup, seq_lst, seq_tup, lst_lst, Co.sem, oInt, Bo.sem, oAdd, oSub, oMul, oDiv, oMod, Bf.sem, oLen, oAbs, oInt1, oGcd, oNeg, oIx, Mt.sem, List.getElem?_cons_zero, List.getElem?_cons_succ, List.set_cons_zero, List.set_cons_succ, setAll, frz_lst, frz_dct, tru_bl, tru_int, oEq_int, oEq_str, Bool.false_bne, Bool.true_bne, if_true, if_false, Bool.false_eq_true, reduceIte, Bool.not_true, Bool.not_false, List.cons.injEq, true_and, and_true, List.length_cons, List.length_nil, Option.some.injEq, exists_eq_left', h1, List.length_map]
      have lb := hb.1
      refine pick_of hs4 (by omega) (by omega) fun v S5 v1 v2 hs5 k5 => ?_
      have e5 : S5 p = some (.lst (ks.map .int)) := (k5 p n1 n2).trans e4
      simp only [seq_ref e5, List.length_map]
      refine pick_of hs5 (by omega) (by omega) fun u S6 u1 u2 hs6 k6 => ?_
      have e6 : S6 p = some (.lst (ks.map .int)) := (k6 p n1 n2).trans e5
      simp only [oSetL, e6]
      refine ⟨u.toNat, by unfold ixN; rw [if_pos u1, if_pos (by rw [List.length_map]; omega)], ?_⟩
      have es : (ks.map T.int).set u.toNat (.int v) = (ks.set u.toNat v).map T.int := by rw [List.map_set]
      rw [es]
      refine rest (ks.set u.toNat v) _ (by rw [List.length_set]; exact l1) (by rw [List.length_set]; exact l5) (fun x hx => ?_) up_same (hs6.put n1 n2) (fun b o eb hb1 hb2 => ?_)
      · rcases List.mem_or_eq_of_mem_set hx with hx | rfl
        · exact hk x hx
        · exact ⟨v1, by omega⟩
      · have nb : b ≠ p := fun z => by rw [z, npS] at eb; cases eb
        rw [up_ne nb]
        exact (k5.w.tr k6.w) b o (kk4 b o eb hb1 hb2) hb1 hb2
    · simp only [hw, decide_false, wS, sem, Sm.val, Sm.tst, Sm.arg, Sm.itr, boolOf, truthOf, gT, gTs, zip_tup, seq_lst, seq_tup, lst_lst, Co.sem, oInt, Bo.sem, oAdd, oSub, oMul, oDiv, oMod, Bf.sem, oLen, oAbs, oInt1, oGcd, oNeg, oIx, Mt.sem, List.getElem?_cons_zero, List.getElem?_cons_succ, List.set_cons_zero, List.set_cons_succ, setAll, frz_lst, frz_dct, tru_bl, tru_int, oEq_int, oEq_str, Bool.false_bne, Bool.true_bne, if_true, if_false, Bool.false_eq_true, reduceIte, Bool.not_true, Bool.not_false, List.cons.injEq, true_and, and_true, List.length_cons, List.length_nil, Option.some.injEq, exists_eq_left']
      exact rest ks S4 l1 l5 hk e4 hs4 kk4
  · rintro e s' ⟨hs2, k2, ls, here, a3, a4, a7, a8, ll, hl, r0, r1, rfl⟩
    simp only [List.length_map, List.length_range] at ll
    obtain ⟨fs, l, rfl⟩ : ∃ fs l, ls = fs ++ [l] := ⟨ls.dropLast, ls.getLast (by intro e; rw [e] at ll; simp at ll; omega), (List.dropLast_concat_getLast _).symm⟩
    obtain ⟨ps, n⟩ := l
    obtain ⟨p1, p5, hp, hn⟩ := hl (ps, n) (by simp)
    simp only [List.length_append, List.length_cons, List.length_nil] at ll
    have fin : ∀ a4 S', IsSrc S' s c → KeptW S S' s c → wS b_l_draw_by_0 G [some (.ref s), some (.lst (bs.map fT)), some (.int first), a3, a4, some (planT (fs ++ [(ps, n)])), some (.int here), a7, a8, none] S' { nx := fun _ S' => R .non S', rt := R, xx := fun _ => X } := by
      intro a4 S' hs' k'
      simp only [b_l_draw_by_0, wS, sem, Sm.val, Sm.tst, Sm.arg, Sm.itr, boolOf, truthOf, gT, gTs, zip_tup, seq_lst, seq_tup, lst_lst, Co.sem, oInt, Bo.sem, oAdd, oSub, oMul, oDiv, oMod, Bf.sem, oLen, oAbs, oInt1, oGcd, oNeg, oIx, Mt.sem, List.getElem?_cons_zero, List.getElem?_cons_succ, List.set_cons_zero, List.set_cons_succ, setAll, frz_lst, frz_dct, tru_bl, tru_int, oEq_int, oEq_str, Bool.false_bne, Bool.true_bne, if_true, if_false, Bool.false_eq_true, reduceIte, Bool.not_true, Bool.not_false, List.cons.injEq, true_and, and_true, List.length_cons, List.length_nil, Option.some.injEq, exists_eq_left']
      exact k _ S' ⟨by simp; omega, hl⟩ hs' k'
    have em : (fs ++ [(ps, n)]).map lapT = fs.map lapT ++ [lapT (ps, n)] := by simp
    have al : TP.atT ((fs ++ [(ps, n)]).map lapT) (-1) = some (lapT (ps, n)) := by
      rw [at_neg1 (by simp), em]; simp
    rw [show planT (fs ++ [(ps, n)]) = T.tup ((fs ++ [(ps, n)]).map lapT) from rfl] at fin ⊢
    simp only [b_l_draw_by_3, wS, sem, Sm.val, Sm.tst, Sm.arg, Sm.itr, boolOf, truthOf, gT, gTs, zip_tup, seq_lst, seq_tup, lst_lst, Co.sem, oInt, Bo.sem, oAdd, oSub, oMul, oDiv, oMod, Bf.sem, oLen, oAbs, oInt1, oGcd, oNeg, oIx, Mt.sem, List.getElem?_cons_zero, List.getElem?_cons_succ, List.set_cons_zero, List.set_cons_succ, setAll, frz_lst, frz_dct, tru_bl, tru_int, oEq_int, oEq_str, Bool.false_bne, Bool.true_bne, if_true, if_false, Bool.false_eq_true, reduceIte, Bool.not_true, Bool.not_false, List.cons.injEq, true_and, and_true, List.length_cons, List.length_nil, Option.some.injEq, exists_eq_left']
    refine ⟨_, al, stepsT ps, at_head, ?_⟩
    simp only [b_l_draw_by_2, wS, sem, Sm.val, Sm.tst, Sm.arg, Sm.itr, boolOf, truthOf, gT, gTs, zip_tup, seq_lst, seq_tup, lst_lst, Co.sem, oInt, Bo.sem, oAdd, oSub, oMul, oDiv, oMod, Bf.sem, oLen, oAbs, oInt1, oGcd, oNeg, oIx, Mt.sem, List.getElem?_cons_zero, List.getElem?_cons_succ, List.set_cons_zero, List.set_cons_succ, setAll, frz_lst, frz_dct, tru_bl, tru_int, oEq_int, oEq_str, Bool.false_bne, Bool.true_bne, if_true, if_false, Bool.false_eq_true, reduceIte, Bool.not_true, Bool.not_false, List.cons.injEq, true_and, and_true, List.length_cons, List.length_nil, Option.some.injEq, exists_eq_left', h0, h1]
    refine pick_of hs2 (by omega) (by omega) fun w S4 w1 w2 hs4 k4 => ?_
    simp only [wS, sem, Sm.val, Sm.tst, Sm.arg, Sm.itr, boolOf, truthOf, gT, gTs, zip_tup, seq_lst, seq_tup, lst_lst, Co.sem, oInt, Bo.sem, oAdd, oSub, oMul, oDiv, oMod, Bf.sem, oLen, oAbs, oInt1, oGcd, oNeg, oIx, Mt.sem, List.getElem?_cons_zero, List.getElem?_cons_succ, List.set_cons_zero, List.set_cons_succ, setAll, frz_lst, frz_dct, tru_bl, tru_int, oEq_int, oEq_str, Bool.false_bne, Bool.true_bne, if_true, if_false, Bool.false_eq_true, reduceIte, Bool.not_true, Bool.not_false, List.cons.injEq, true_and, and_true, List.length_cons, List.length_nil, Option.some.injEq, exists_eq_left']
    by_cases hw : w = 0
    · simp only [hw, decide_true, wS, sem, Sm.val, Sm.tst, Sm.arg, Sm.itr, boolOf, truthOf, gT, gTs, zip_tup, seq_lst, seq_tup, lst_lst, Co.sem, oInt, Bo.sem, oAdd, oSub, oMul, oDiv, oMod, Bf.sem, oLen, oAbs, oInt1, oGcd, oNeg, oIx, Mt.sem, List.getElem?_cons_zero, List.getElem?_cons_succ, List.set_cons_zero, List.set_cons_succ, setAll, frz_lst, frz_dct, tru_bl, tru_int, oEq_int, oEq_str, Bool.false_bne, Bool.true_bne, if_true, if_false, Bool.false_eq_true, reduceIte, Bool.not_true, Bool.not_false, List.cons.injEq, true_and, and_true, List.length_cons, List.length_nil, Option.some.injEq, exists_eq_left']
      refine ⟨ps, rfl, by simp only at p5; omega, fun p hp2 => time_sz (hp p hp2).2.2, ?_⟩
      refine ⟨by decide, ?_⟩
      show oEq true (rT _) (rT 0) _ _
      refine oEq_rT ?_
      by_cases hz : timeR ps = 0
      · simp only [hz, decide_true, Bool.true_xor, Bool.not_true, wS, sem, Sm.val, Sm.tst, Sm.arg, Sm.itr, boolOf, truthOf, gT, gTs, zip_tup, seq_lst, seq_tup, lst_lst, Co.sem, oInt, Bo.sem, oAdd, oSub, oMul, oDiv, oMod, Bf.sem, oLen, oAbs, oInt1, oGcd, oNeg, oIx, Mt.sem, List.getElem?_cons_zero, List.getElem?_cons_succ, List.set_cons_zero, List.set_cons_succ, setAll, frz_lst, frz_dct, tru_bl, tru_int, oEq_int, oEq_str, Bool.false_bne, Bool.true_bne, if_true, if_false, Bool.false_eq_true, reduceIte, Bool.not_true, Bool.not_false, List.cons.injEq, true_and, and_true, List.length_cons, List.length_nil, Option.some.injEq, exists_eq_left']
        exact fin _ S4 hs4 (k2.tr k4.w)
      · simp only [hz, decide_false, Bool.true_xor, Bool.not_false, wS, sem, Sm.val, Sm.tst, Sm.arg, Sm.itr, boolOf, truthOf, gT, gTs, zip_tup, seq_lst, seq_tup, lst_lst, Co.sem, oInt, Bo.sem, oAdd, oSub, oMul, oDiv, oMod, Bf.sem, oLen, oAbs, oInt1, oGcd, oNeg, oIx, Mt.sem, List.getElem?_cons_zero, List.getElem?_cons_succ, List.set_cons_zero, List.set_cons_succ, setAll, frz_lst, frz_dct, tru_bl, tru_int, oEq_int, oEq_str, Bool.false_bne, Bool.true_bne, if_true, if_false, Bool.false_eq_true, reduceIte, Bool.not_true, Bool.not_false, List.cons.injEq, true_and, and_true, List.length_cons, List.length_nil, Option.some.injEq, exists_eq_left']
        simp only [b_l_draw_by_1, wS, sem, Sm.val, Sm.tst, Sm.arg, Sm.itr, boolOf, truthOf, gT, gTs, zip_tup, seq_lst, seq_tup, lst_lst, Co.sem, oInt, Bo.sem, oAdd, oSub, oMul, oDiv, oMod, Bf.sem, oLen, oAbs, oInt1, oGcd, oNeg, oIx, Mt.sem, List.getElem?_cons_zero, List.getElem?_cons_succ, List.set_cons_zero, List.set_cons_succ, setAll, frz_lst, frz_dct, tru_bl, tru_int, oEq_int, oEq_str, Bool.false_bne, Bool.true_bne, if_true, if_false, Bool.false_eq_true, reduceIte, Bool.not_true, Bool.not_false, List.cons.injEq, true_and, and_true, List.length_cons, List.length_nil, Option.some.injEq, exists_eq_left', slP, oSl, cut_last]
        have et : ((fs ++ [(ps, n)]).map lapT).take (((fs ++ [(ps, n)]).map lapT).length - 1) = fs.map lapT := by
          rw [em]; simp
        rw [et]
        refine ⟨by decide, by decide, ?_⟩
        refine ⟨Nat.le_trans (show _ ≤ 100 by rw [List.length_map]; omega) (by decide), ?_⟩
        simp only [b_l_draw_by_0, wS, sem, Sm.val, Sm.tst, Sm.arg, Sm.itr, boolOf, truthOf, gT, gTs, zip_tup, seq_lst, seq_tup, lst_lst, Co.sem, oInt, Bo.sem, oAdd, oSub, oMul, oDiv, oMod, Bf.sem, oLen, oAbs, oInt1, oGcd, oNeg, oIx, Mt.sem, List.getElem?_cons_zero, List.getElem?_cons_succ, List.set_cons_zero, List.set_cons_succ, setAll, frz_lst, frz_dct, tru_bl, tru_int, oEq_int, oEq_str, Bool.false_bne, Bool.true_bne, if_true, if_false, Bool.false_eq_true, reduceIte, Bool.not_true, Bool.not_false, List.cons.injEq, true_and, and_true, List.length_cons, List.length_nil, Option.some.injEq, exists_eq_left']
        have e : T.tup (fs.map lapT ++ [T.tup [stepsT ps, .non]]) = planT (fs ++ [(ps, none)]) := by unfold planT; rw [List.map_append]; rfl
        rw [e]
        refine k _ S4 ⟨by simp; omega, fun l hm => ?_⟩ hs4 (k2.tr k4.w)
        rcases List.mem_append.mp hm with hm | hm
        · exact hl l (by simp [hm])
        · rw [List.mem_singleton.mp hm]
          exact ⟨p1, p5, hp, fun n e => by cases e⟩
    · simp only [hw, decide_false, wS, sem, Sm.val, Sm.tst, Sm.arg, Sm.itr, boolOf, truthOf, gT, gTs, zip_tup, seq_lst, seq_tup, lst_lst, Co.sem, oInt, Bo.sem, oAdd, oSub, oMul, oDiv, oMod, Bf.sem, oLen, oAbs, oInt1, oGcd, oNeg, oIx, Mt.sem, List.getElem?_cons_zero, List.getElem?_cons_succ, List.set_cons_zero, List.set_cons_succ, setAll, frz_lst, frz_dct, tru_bl, tru_int, oEq_int, oEq_str, Bool.false_bne, Bool.true_bne, if_true, if_false, Bool.false_eq_true, reduceIte, Bool.not_true, Bool.not_false, List.cons.injEq, true_and, and_true, List.length_cons, List.length_nil, Option.some.injEq, exists_eq_left']
      exact fin _ S4 hs4 (k2.tr k4.w)
/-! ### the law -/
theorem PlanP.pp {m : Int} {ls : List Lap} (h : PlanP m ls) : PP m ls := ⟨h.len, fun l hl => by
  obtain ⟨⟨a, b, c⟩, d⟩ := h.steps l hl
  exact ⟨a, by omega, c, fun n e => ⟨(d n e).1, by have := (d n e).2; omega⟩⟩⟩
theorem PP.wf {m : Int} {bs : Bk} {ls : List Lap} (hb : BkP m bs) (h : PP m ls) : WfP bs ls := ⟨by have := h.1; omega, fun l hl => by
  obtain ⟨a, b, c, d⟩ := h.2 l hl
  refine ⟨fun e => by rw [e] at a; simp at a, by omega, fun k hk => ?_⟩
  obtain ⟨p, hp, rfl⟩ := List.mem_map.mp hk
  have l := hb.1
  exact ⟨(c p hp).1, by rw [l]; exact (c p hp).2.1⟩⟩
theorem PP.gd {m : Int} (hm : m ≤ 20) {ls : List Lap} (h : PP m ls) : Gd 5 308343 (planT ls) := by
  refine (gd_tup (k := 4) (m := 77083) (ts := ls.map lapT) (fun u hu => ?_) (by rw [List.length_map]; have := h.1; omega)).up (Nat.le_refl _) (by rw [List.length_map]; have := h.1; omega)
  obtain ⟨l, hl, rfl⟩ := List.mem_map.mp hu
  obtain ⟨a, b, c, d⟩ := h.2 l hl
  refine (gd_tup (k := 3) (m := 38538) (fun t ht => ?_) (by simp)).up (Nat.le_refl _) (by simp)
  simp only [List.mem_cons, List.not_mem_nil, or_false] at ht
  rcases ht with rfl | rfl
  · refine (gd_tup (k := 2) (m := 7705) (ts := l.1.map stT) (fun t ht => ?_) (by rw [List.length_map]; omega)).up (Nat.le_refl _) (by rw [List.length_map]; omega)
    obtain ⟨p, hp, rfl⟩ := List.mem_map.mp ht
    exact gd_step hm (c p hp)
  · obtain ⟨ps, n⟩ := l
    cases n with
    | none => exact (show Gd 0 1921 .non from ⟨sh_ofK (by decide +kernel), by decide +kernel⟩).up (by omega) (by omega)
    | some n => exact (show Gd 0 1921 (.int n) from gd_int (by have := d n rfl; omega)).up (by omega) (by omega)
theorem BkP.gd {m : Int} (hm : m ≤ 8) {bs : Bk} (h : BkP m bs) : Gd 5 308343 (.lst (bs.map fT)) := by
  have l := h.1
  refine (gd_lst (k := 1) (m := 15387) (ts := bs.map fT) (fun u hu => ?_)).up (by omega) (by rw [List.length_map]; omega)
  obtain ⟨fs, hf, rfl⟩ := List.mem_map.mp hu
  obtain ⟨a, b⟩ := h.2 fs hf
  refine (gd_tup (k := 0) (m := 1921) (ts := fs.map .int) (fun t ht => ?_) (by rw [List.length_map]; omega)).up (Nat.le_refl _) (by rw [List.length_map]; omega)
  obtain ⟨k, hk, rfl⟩ := List.mem_map.mp ht
  exact gd_int (by have := b k hk; omega)
def wfB (bs : Bk) (ls : List Lap) : Bool := decide (ls.length ≤ 45) && ls.all fun l => !l.1.isEmpty && decide (l.1.length ≤ 45) && (turnsOf l).all fun k => decide (0 ≤ k) && decide (k < bs.length)
theorem wf_of {bs : Bk} {ls : List Lap} (h : wfB bs ls = true) : WfP bs ls := by
  simp only [wfB, Bool.and_eq_true, decide_eq_true_eq, List.all_eq_true, Bool.not_eq_true'] at h
  refine ⟨h.1, fun l hl => ?_⟩
  obtain ⟨⟨a, b⟩, c⟩ := h.2 l hl
  exact ⟨fun e => by rw [e] at a; simp at a, b, fun k hk => c k hk⟩
def spLaw : TSp := fun ts S R X => ∃ ns : List Int, ts = [.scr (ns.map .int)] ∧ ns.length ≤ 63 ∧ ∀ S', R (.bl true) S'
section
variable {G : Gx} {x0 x1 : Str} (h0 : G.fns[0]? = some (x0, spByBook)) (h1 : G.fns[1]? = some (x1, spByBook)) {D : En}
include h0 h1 in
theorem w_plan {a0 a1 a2 a3 a4 a5 a7 a8 a11 a12 : Option T} {ls : List Lap} {bs : Bk} {m first : Int} {S : Sto} (m8 : m ≤ 8) (hb : BkP m bs) (hl : PP m ls) (k : ∀ a11 a12, D.nx [a0, a1, a2, a3, a4, a5, some (planT ls), a7, a8, some (.lst (bs.map fT)), some (.int first), a11, a12] S) : wS b_the_law_8 G [a0, a1, a2, a3, a4, a5, some (planT ls), a7, a8, some (.lst (bs.map fT)), some (.int first), a11, a12] S D := by
  have sl : Sh 60 16000000 (.lst [.lst (bs.map fT), planT ls]) := by
    refine (sh_lst (k := 5) (m := 308343) fun t ht => ?_).up (by omega) (by simp)
    simp only [List.mem_cons, List.not_mem_nil, or_false] at ht
    rcases ht with rfl | rfl
    · exact (BkP.gd m8 hb).1
    · exact (PP.gd (by omega) hl).1
  have sb : ∀ b : Bool, Sh 60 16000000 (.bl b) := fun b => sh_bl.up (by omega) (by omega)
  simp only [b_the_law_8, wS, sem, Sm.val, Sm.tst, Sm.arg, Sm.itr, boolOf, truthOf, gT, gTs, zip_tup, seq_lst, seq_tup, lst_lst, Co.sem, oInt, Bo.sem, oAdd, oSub, oMul, oDiv, oMod, Bf.sem, oLen, oAbs, oInt1, oGcd, oNeg, oIx, Mt.sem, List.getElem?_cons_zero, List.getElem?_cons_succ, List.set_cons_zero, List.set_cons_succ, setAll, frz_lst, frz_dct, tru_bl, tru_int, oEq_int, oEq_str, Bool.false_bne, Bool.true_bne, if_true, if_false, Bool.false_eq_true, reduceIte, Bool.not_true, Bool.not_false, List.cons.injEq, true_and, and_true, List.length_cons, List.length_nil, Option.some.injEq, exists_eq_left', oRepr_sh sl]
  refine ⟨by decide, fun _ => ?_⟩
  simp only [b_the_law_7, wS, sem, Sm.val, Sm.tst, Sm.arg, Sm.itr, boolOf, truthOf, gT, gTs, zip_tup, seq_lst, seq_tup, lst_lst, Co.sem, oInt, Bo.sem, oAdd, oSub, oMul, oDiv, oMod, Bf.sem, oLen, oAbs, oInt1, oGcd, oNeg, oIx, Mt.sem, List.getElem?_cons_zero, List.getElem?_cons_succ, List.set_cons_zero, List.set_cons_succ, setAll, frz_lst, frz_dct, tru_bl, tru_int, oEq_int, oEq_str, Bool.false_bne, Bool.true_bne, if_true, if_false, Bool.false_eq_true, reduceIte, Bool.not_true, Bool.not_false, List.cons.injEq, true_and, and_true, List.length_cons, List.length_nil, Option.some.injEq, exists_eq_left', oTup]
  refine ⟨by decide, ?_⟩
  refine wFor_by (fun _ e S' => S' = S ∧ ∃ a12, e = [a0, a1, a2, a3, a4, a5, some (planT ls), a7, a8, some (.lst (bs.map fT)), some (.int first), some (.str (shT (.lst [.lst (bs.map fT), planT ls]))), a12]) (fun _ _ _ _ => trivial) ?_ ?_ ⟨rfl, _, rfl⟩
  · rintro i t e S1 C ht ⟨rfl, a12, rfl⟩ hC
    have hm := List.mem_of_getElem? ht
    have ask : ∀ x : T, IsBk x bs → wS b_the_law_6 G [a0, a1, a2, a3, a4, a5, some (planT ls), a7, a8, some (.lst (bs.map fT)), some (.int first), some (.str (shT (.lst [.lst (bs.map fT), planT ls]))), some x] S1 { D with nx := C, ct := C, bk := fun e' S' => wS b_the_law_5 G e' S' D } := by
      intro x hx
      simp only [b_the_law_6, wS, sem, Sm.val, Sm.tst, Sm.arg, Sm.itr, boolOf, truthOf, gT, gTs, zip_tup, seq_lst, seq_tup, lst_lst, Co.sem, oInt, Bo.sem, oAdd, oSub, oMul, oDiv, oMod, Bf.sem, oLen, oAbs, oInt1, oGcd, oNeg, oIx, Mt.sem, List.getElem?_cons_zero, List.getElem?_cons_succ, List.set_cons_zero, List.set_cons_succ, setAll, frz_lst, frz_dct, tru_bl, tru_int, oEq_int, oEq_str, Bool.false_bne, Bool.true_bne, if_true, if_false, Bool.false_eq_true, reduceIte, Bool.not_true, Bool.not_false, List.cons.injEq, true_and, and_true, List.length_cons, List.length_nil, Option.some.injEq, exists_eq_left', h0, h1]
      refine ⟨x, bs, first, ls, rfl, hx, PP.wf hb hl, ?_⟩
      simp only [oRepr_sh (sb _)]
      refine ⟨_, bs, first, ls, rfl, .inl rfl, PP.wf hb hl, ?_⟩
      simp only [oRepr_sh (sb _), wS, sem, Sm.val, Sm.tst, Sm.arg, Sm.itr, boolOf, truthOf, gT, gTs, zip_tup, seq_lst, seq_tup, lst_lst, Co.sem, oInt, Bo.sem, oAdd, oSub, oMul, oDiv, oMod, Bf.sem, oLen, oAbs, oInt1, oGcd, oNeg, oIx, Mt.sem, List.getElem?_cons_zero, List.getElem?_cons_succ, List.set_cons_zero, List.set_cons_succ, setAll, frz_lst, frz_dct, tru_bl, tru_int, oEq_int, oEq_str, Bool.false_bne, Bool.true_bne, if_true, if_false, Bool.false_eq_true, reduceIte, Bool.not_true, Bool.not_false, List.cons.injEq, true_and, and_true, List.length_cons, List.length_nil, Option.some.injEq, exists_eq_left', decide_true]
      exact hC _ _ ⟨rfl, _, rfl⟩
    simp only [List.mem_cons, List.not_mem_nil, or_false] at hm
    rcases hm with rfl | rfl
    · exact ask _ (.inl rfl)
    · exact ask _ (.inr rfl)
  · rintro e S1 ⟨rfl, a12, rfl⟩
    simp only [b_the_law_5, wS, sem, Sm.val, Sm.tst, Sm.arg, Sm.itr, boolOf, truthOf, gT, gTs, zip_tup, seq_lst, seq_tup, lst_lst, Co.sem, oInt, Bo.sem, oAdd, oSub, oMul, oDiv, oMod, Bf.sem, oLen, oAbs, oInt1, oGcd, oNeg, oIx, Mt.sem, List.getElem?_cons_zero, List.getElem?_cons_succ, List.set_cons_zero, List.set_cons_succ, setAll, frz_lst, frz_dct, tru_bl, tru_int, oEq_int, oEq_str, Bool.false_bne, Bool.true_bne, if_true, if_false, Bool.false_eq_true, reduceIte, Bool.not_true, Bool.not_false, List.cons.injEq, true_and, and_true, List.length_cons, List.length_nil, Option.some.injEq, exists_eq_left', oRepr_sh sl]
    refine ⟨by decide, fun _ => ?_⟩
    simp only [wS, sem, Sm.val, Sm.tst, Sm.arg, Sm.itr, boolOf, truthOf, gT, gTs, zip_tup, seq_lst, seq_tup, lst_lst, Co.sem, oInt, Bo.sem, oAdd, oSub, oMul, oDiv, oMod, Bf.sem, oLen, oAbs, oInt1, oGcd, oNeg, oIx, Mt.sem, List.getElem?_cons_zero, List.getElem?_cons_succ, List.set_cons_zero, List.set_cons_succ, setAll, frz_lst, frz_dct, tru_bl, tru_int, oEq_int, oEq_str, Bool.false_bne, Bool.true_bne, if_true, if_false, Bool.false_eq_true, reduceIte, Bool.not_true, Bool.not_false, List.cons.injEq, true_and, and_true, List.length_cons, List.length_nil, Option.some.injEq, exists_eq_left', decide_true]
    exact k _ _
include h0 in
theorem w_end {a0 a1 a2 a3 a4 a5 a6 a7 a8 a9 a10 a11 a12 : Option T} {S : Sto} (k : ∀ S', D.rt (.bl true) S') : wS b_the_law_4 G [a0, a1, a2, a3, a4, a5, a6, a7, a8, a9, a10, a11, a12] S D := by
  simp only [b_the_law_4, wS, sem, Sm.val, Sm.tst, Sm.arg, Sm.itr, boolOf, truthOf, gT, gTs, zip_tup, seq_lst, seq_tup, lst_lst, Co.sem, oInt, Bo.sem, oAdd, oSub, oMul, oDiv, oMod, Bf.sem, oLen, oAbs, oInt1, oGcd, oNeg, oIx, Mt.sem, List.getElem?_cons_zero, List.getElem?_cons_succ, List.set_cons_zero, List.set_cons_succ, setAll, frz_lst, frz_dct, tru_bl, tru_int, oEq_int, oEq_str, Bool.false_bne, Bool.true_bne, if_true, if_false, Bool.false_eq_true, reduceIte, Bool.not_true, Bool.not_false, List.cons.injEq, true_and, and_true, List.length_cons, List.length_nil, Option.some.injEq, exists_eq_left']
  refine ⟨by decide, by decide, by decide, by decide, by decide, by decide, by decide, ?_⟩
  have call : ∀ (bs : Bk) (ls : List Lap) (b : Bool) {S' : Sto} {R : RP} {X : XP}, wfB bs ls = true → byB bs 0 none ls = b → R (.bl b) S' → spByBook [.lst (bs.map fT), .int 0, planT ls] S' R X := fun bs ls b S' R X h1 h2 h3 => ⟨_, bs, 0, ls, rfl, .inl rfl, wf_of h1, by rw [h2]; exact h3⟩
  simp only [b_the_law_3, wS, sem, Sm.val, Sm.tst, Sm.arg, Sm.itr, boolOf, truthOf, gT, gTs, zip_tup, seq_lst, seq_tup, lst_lst, Co.sem, oInt, Bo.sem, oAdd, oSub, oMul, oDiv, oMod, Bf.sem, oLen, oAbs, oInt1, oGcd, oNeg, oIx, Mt.sem, List.getElem?_cons_zero, List.getElem?_cons_succ, List.set_cons_zero, List.set_cons_succ, setAll, frz_lst, frz_dct, tru_bl, tru_int, oEq_int, oEq_str, Bool.false_bne, Bool.true_bne, if_true, if_false, Bool.false_eq_true, reduceIte, Bool.not_true, Bool.not_false, List.cons.injEq, true_and, and_true, List.length_cons, List.length_nil, Option.some.injEq, exists_eq_left', h0]
  repeat (first | refine And.intro (by decide) ?_ | intro _)
  refine call [[1], []] [([(0, 1)], some 1), ([(1, 0)], some 1)] true (by decide +kernel) (by decide +kernel) ?_
  repeat (first | refine And.intro (by decide) ?_ | intro _)
  simp only [b_the_law_2, wS, sem, Sm.val, Sm.tst, Sm.arg, Sm.itr, boolOf, truthOf, gT, gTs, zip_tup, seq_lst, seq_tup, lst_lst, Co.sem, oInt, Bo.sem, oAdd, oSub, oMul, oDiv, oMod, Bf.sem, oLen, oAbs, oInt1, oGcd, oNeg, oIx, Mt.sem, List.getElem?_cons_zero, List.getElem?_cons_succ, List.set_cons_zero, List.set_cons_succ, setAll, frz_lst, frz_dct, tru_bl, tru_int, oEq_int, oEq_str, Bool.false_bne, Bool.true_bne, if_true, if_false, Bool.false_eq_true, reduceIte, Bool.not_true, Bool.not_false, List.cons.injEq, true_and, and_true, List.length_cons, List.length_nil, Option.some.injEq, exists_eq_left', h0]
  repeat (first | refine And.intro (by decide) ?_ | intro _)
  refine call [[1], []] [([(0, 1)], some 1), ([(1, 0)], some 1), ([(0, 1)], some 1)] false (by decide +kernel) (by decide +kernel) ?_
  repeat (first | refine And.intro (by decide) ?_ | intro _)
  simp only [b_the_law_1, wS, sem, Sm.val, Sm.tst, Sm.arg, Sm.itr, boolOf, truthOf, gT, gTs, zip_tup, seq_lst, seq_tup, lst_lst, Co.sem, oInt, Bo.sem, oAdd, oSub, oMul, oDiv, oMod, Bf.sem, oLen, oAbs, oInt1, oGcd, oNeg, oIx, Mt.sem, List.getElem?_cons_zero, List.getElem?_cons_succ, List.set_cons_zero, List.set_cons_succ, setAll, frz_lst, frz_dct, tru_bl, tru_int, oEq_int, oEq_str, Bool.false_bne, Bool.true_bne, if_true, if_false, Bool.false_eq_true, reduceIte, Bool.not_true, Bool.not_false, List.cons.injEq, true_and, and_true, List.length_cons, List.length_nil, Option.some.injEq, exists_eq_left', h0]
  repeat (first | refine And.intro (by decide) ?_ | intro _)
  refine call [[], [0]] [([(0, 1), (1, 0)], some 1)] false (by decide +kernel) (by decide +kernel) ?_
  repeat (first | refine And.intro (by decide) ?_ | intro _)
  refine .inr ⟨by simp, by omega, by omega, by simp, ?_⟩
  repeat (first | refine And.intro (by decide) ?_ | intro _)
  refine call [[], []] [([(0, 1), (0, 1)], none)] true (by decide +kernel) (by decide +kernel) ?_
  repeat (first | refine And.intro (by decide) ?_ | intro _)
  simp only [b_the_law_0, wS, sem, Sm.val, Sm.tst, Sm.arg, Sm.itr, boolOf, truthOf, gT, gTs, zip_tup, seq_lst, seq_tup, lst_lst, Co.sem, oInt, Bo.sem, oAdd, oSub, oMul, oDiv, oMod, Bf.sem, oLen, oAbs, oInt1, oGcd, oNeg, oIx, Mt.sem, List.getElem?_cons_zero, List.getElem?_cons_succ, List.set_cons_zero, List.set_cons_succ, setAll, frz_lst, frz_dct, tru_bl, tru_int, oEq_int, oEq_str, Bool.false_bne, Bool.true_bne, if_true, if_false, Bool.false_eq_true, reduceIte, Bool.not_true, Bool.not_false, List.cons.injEq, true_and, and_true, List.length_cons, List.length_nil, Option.some.injEq, exists_eq_left', h0]
  repeat (first | refine And.intro (by decide) ?_ | intro _)
  refine call [[1], []] [([(0, 1), (1, 0)], some 2)] false (by decide +kernel) (by decide +kernel) ?_
  repeat (first | refine And.intro (by decide) ?_ | intro _)
  have e1 : (false ^^ PyData.eqv (.list [.bool true, .bool false, .bool false, .bool true, .bool false]) (.list [.bool true, .bool false, .bool false, .bool true, .bool false])) = true := by decide +kernel
  refine ⟨.list [.bool true, .bool false, .bool false, .bool true, .bool false], .list [.bool true, .bool false, .bool false, .bool true, .bool false], rfl, rfl, by decide +kernel, by decide +kernel, ?_⟩
  rw [e1]
  exact k S
end
theorem w_law (G : Gx) (N : List Str) (hN : N.length = 13) {x0 : Str} (h0 : G.fns[0]? = some (x0, spByBook)) {x1 : Str} (h1 : G.fns[1]? = some (x1, spByBook)) {x2 : Str} (h2 : G.fns[2]? = some (x2, spDrawPlan)) {x3 : Str} (h3 : G.fns[3]? = some (x3, spDrawBy)) {x4 : Str} (h4 : G.fns[4]? = some (x4, spPick)) {x5 : Str} (h5 : G.fns[5]? = some (x5, spDrawBook)) {x6 : Str} (h6 : G.fns[6]? = some (x6, spOpen)) (ts : List T) (S : Sto) (R : RP) (X : XP) (h : spLaw ts S R X) : ts.length = 1 ∧ wS b_the_law G (startE N ts) S { nx := fun _ S' => R .non S', rt := R, xx := fun _ => X } := by
  obtain ⟨ns, rfl, hn, k⟩ := h
  refine ⟨rfl, ?_⟩
  unfold startE
  rw [hN]
  show wS b_the_law G [some (.scr (ns.map .int)), none, none, none, none, none, none, none, none, none, none, none, none] S _
  simp only [b_the_law, b_the_law_14, wS, sem, Sm.val, Sm.tst, Sm.arg, Sm.itr, boolOf, truthOf, gT, gTs, zip_tup, seq_lst, seq_tup, lst_lst, Co.sem, oInt, Bo.sem, oAdd, oSub, oMul, oDiv, oMod, Bf.sem, oLen, oAbs, oInt1, oGcd, oNeg, oIx, Mt.sem, List.getElem?_cons_zero, List.getElem?_cons_succ, List.set_cons_zero, List.set_cons_succ, setAll, frz_lst, frz_dct, tru_bl, tru_int, oEq_int, oEq_str, Bool.false_bne, Bool.true_bne, if_true, if_false, Bool.false_eq_true, reduceIte, Bool.not_true, Bool.not_false, List.cons.injEq, true_and, and_true, List.length_cons, List.length_nil, Option.some.injEq, exists_eq_left', h6]
  refine ⟨ns, rfl, hn, fun s c S1 _ _ hs _ => ?_⟩
  simp only [b_the_law_13, wS, sem, Sm.val, Sm.tst, Sm.arg, Sm.itr, boolOf, truthOf, gT, gTs, zip_tup, seq_lst, seq_tup, lst_lst, Co.sem, oInt, Bo.sem, oAdd, oSub, oMul, oDiv, oMod, Bf.sem, oLen, oAbs, oInt1, oGcd, oNeg, oIx, Mt.sem, List.getElem?_cons_zero, List.getElem?_cons_succ, List.set_cons_zero, List.set_cons_succ, setAll, frz_lst, frz_dct, tru_bl, tru_int, oEq_int, oEq_str, Bool.false_bne, Bool.true_bne, if_true, if_false, Bool.false_eq_true, reduceIte, Bool.not_true, Bool.not_false, List.cons.injEq, true_and, and_true, List.length_cons, List.length_nil, Option.some.injEq, exists_eq_left']
  refine ⟨by decide, ?_⟩
  refine wFor_by (fun _ e S' => IsSrc S' s c ∧ ∃ a2 a3 a4 a5 a6 a7 a8 a9 a10 a11 a12, e = [some (.scr (ns.map .int)), some (.ref s), a2, a3, a4, a5, a6, a7, a8, a9, a10, a11, a12]) (fun _ _ _ _ => trivial) ?_ ?_ ⟨hs, _, _, _, _, _, _, _, _, _, _, _, rfl⟩
  · rintro i t e S2 C ht ⟨hs2, a2, a3, a4, a5, a6, a7, a8, a9, a10, a11, a12, rfl⟩ hC
    simp only [b_the_law_12, wS, sem, Sm.val, Sm.tst, Sm.arg, Sm.itr, boolOf, truthOf, gT, gTs, zip_tup, seq_lst, seq_tup, lst_lst, Co.sem, oInt, Bo.sem, oAdd, oSub, oMul, oDiv, oMod, Bf.sem, oLen, oAbs, oInt1, oGcd, oNeg, oIx, Mt.sem, List.getElem?_cons_zero, List.getElem?_cons_succ, List.set_cons_zero, List.set_cons_succ, setAll, frz_lst, frz_dct, tru_bl, tru_int, oEq_int, oEq_str, Bool.false_bne, Bool.true_bne, if_true, if_false, Bool.false_eq_true, reduceIte, Bool.not_true, Bool.not_false, List.cons.injEq, true_and, and_true, List.length_cons, List.length_nil, Option.some.injEq, exists_eq_left', h4]
    refine pick_of hs2 (by omega) (by omega) fun j S3 j1 j2 hs3 _ => ?_
    simp only
    simp only [b_the_law_11, wS, sem, Sm.val, Sm.tst, Sm.arg, Sm.itr, boolOf, truthOf, gT, gTs, zip_tup, seq_lst, seq_tup, lst_lst, Co.sem, oInt, Bo.sem, oAdd, oSub, oMul, oDiv, oMod, Bf.sem, oLen, oAbs, oInt1, oGcd, oNeg, oIx, Mt.sem, List.getElem?_cons_zero, List.getElem?_cons_succ, List.set_cons_zero, List.set_cons_succ, setAll, frz_lst, frz_dct, tru_bl, tru_int, oEq_int, oEq_str, Bool.false_bne, Bool.true_bne, if_true, if_false, Bool.false_eq_true, reduceIte, Bool.not_true, Bool.not_false, List.cons.injEq, true_and, and_true, List.length_cons, List.length_nil, Option.some.injEq, exists_eq_left', h4, h5]
    refine ⟨s, c, 1 + j, rfl, by omega, by omega, hs3, fun bs S4 hb hs4 _ => ?_⟩
    refine pick_of hs4 (by omega) (by omega) fun first S5 f1 f2 hs5 _ => ?_
    simp only [b_the_law_10, wS, sem, Sm.val, Sm.tst, Sm.arg, Sm.itr, boolOf, truthOf, gT, gTs, zip_tup, seq_lst, seq_tup, lst_lst, Co.sem, oInt, Bo.sem, oAdd, oSub, oMul, oDiv, oMod, Bf.sem, oLen, oAbs, oInt1, oGcd, oNeg, oIx, Mt.sem, List.getElem?_cons_zero, List.getElem?_cons_succ, List.set_cons_zero, List.set_cons_succ, setAll, frz_lst, frz_dct, tru_bl, tru_int, oEq_int, oEq_str, Bool.false_bne, Bool.true_bne, if_true, if_false, Bool.false_eq_true, reduceIte, Bool.not_true, Bool.not_false, List.cons.injEq, true_and, and_true, List.length_cons, List.length_nil, Option.some.injEq, exists_eq_left', h2, h3]
    refine ⟨s, c, bs, first, 1 + j, rfl, hs5, hb, by omega, by omega, f1, f2, fun l1 S6 g1 hs6 _ => ?_⟩
    refine ⟨s, c, bs, first, 1 + j, rfl, hs6, hb, by omega, by omega, f1, f2, fun l2 S7 g2 hs7 _ => ?_⟩
    refine ⟨s, c, 1 + j, rfl, by omega, by omega, hs7, fun l3 S8 g3 hs8 _ => ?_⟩
    refine ⟨by decide, by decide, fun _ => ?_⟩
    simp only [b_the_law_9, wS, sem, Sm.val, Sm.tst, Sm.arg, Sm.itr, boolOf, truthOf, gT, gTs, zip_tup, seq_lst, seq_tup, lst_lst, Co.sem, oInt, Bo.sem, oAdd, oSub, oMul, oDiv, oMod, Bf.sem, oLen, oAbs, oInt1, oGcd, oNeg, oIx, Mt.sem, List.getElem?_cons_zero, List.getElem?_cons_succ, List.set_cons_zero, List.set_cons_succ, setAll, frz_lst, frz_dct, tru_bl, tru_int, oEq_int, oEq_str, Bool.false_bne, Bool.true_bne, if_true, if_false, Bool.false_eq_true, reduceIte, Bool.not_true, Bool.not_false, List.cons.injEq, true_and, and_true, List.length_cons, List.length_nil, Option.some.injEq, exists_eq_left']
    refine wFor_by (fun _ e S' => S' = S8 ∧ ∃ a6 a11 a12, e = [some (.scr (ns.map .int)), some (.ref s), some t, a3, some (.int (1 + j)), some (.lst [planT l1, planT l2, planT l3, .tup []]), a6, a7, a8, some (.lst (bs.map fT)), some (.int first), a11, a12]) (fun _ _ _ _ => trivial) ?_ ?_ ⟨rfl, _, _, _, rfl⟩
    · rintro _ u e S9 C2 hu ⟨rfl, b6, b11, b12, rfl⟩ hC2
      obtain ⟨l, rfl, hl⟩ : ∃ l, u = planT l ∧ PP (1 + j) l := by
        have hm := List.mem_of_getElem? hu
        simp only [List.mem_cons, List.not_mem_nil, or_false] at hm
        rcases hm with rfl | rfl | rfl | rfl
        · exact ⟨_, rfl, g1⟩
        · exact ⟨_, rfl, g2⟩
        · exact ⟨_, rfl, PlanP.pp g3⟩
        · exact ⟨[], rfl, by simp, by simp⟩
      refine w_plan h0 h1 (by omega) hb hl fun a11 a12 => hC2 _ _ ⟨rfl, _, _, _, rfl⟩
    · rintro e S9 ⟨rfl, b6, b11, b12, rfl⟩
      exact hC _ _ ⟨hs8, _, _, _, _, _, _, _, _, _, _, _, rfl⟩
  · rintro e S2 ⟨hs2, a2, a3, a4, a5, a6, a7, a8, a9, a10, a11, a12, rfl⟩
    exact w_end h0 k
end K82

set_option maxHeartbeats 4000000
namespace K82
open PySem PySem.Spec PyProof.Rows L2
open TP hiding b_l_odd b_l_odd_0 b_l_odd_1 b_l_odd_2 n_l_odd
open TG
def top (i : Nat) : Stmt := PySem.Challenge.pw_ledlevels_k82_plans_by_books.main.body.getD i (.Pass ⟨0, 0, 0, 0⟩)
abbrev s_follows : Stmt := top 1
def g_follows (K : PySem.W.Frag) : Gx := { N := n_follows, sc := defScope s_follows, calm := true, top := true, fns := [], cons := [], bts := [], bfs := [], exs := [], exm := PySem.W.exmOne K }
theorem sc_follows : FnScope n_follows ["book", "one", "other"] (defScope s_follows) := ⟨rfl, rfl, rfl, by decide +kernel, rfl, by decide +kernel, by decide +kernel⟩
theorem ck_follows (K : PySem.W.Frag) : (ckS b_follows (g_follows K )).b (defBody s_follows) = true := by kernel_rfl
abbrev s_is_row_by_book : Stmt := top 2
def g_is_row_by_book (K : PySem.W.Frag) : Gx := { N := n_is_row_by_book, sc := defScope s_is_row_by_book, calm := true, top := true, fns := [("follows", spFollows)], cons := [], bts := ["all", "zip"], bfs := [], exs := [], exm := PySem.W.exmOne K }
theorem sc_is_row_by_book : FnScope n_is_row_by_book ["book", "turns"] (defScope s_is_row_by_book) := ⟨rfl, rfl, rfl, by decide +kernel, rfl, by decide +kernel, by decide +kernel⟩
theorem ck_is_row_by_book (K : PySem.W.Frag) : (ckS b_is_row_by_book (g_is_row_by_book K )).b (defBody s_is_row_by_book) = true := by kernel_rfl
abbrev s_is_by_book : Stmt := top 3
def g_is_by_book (K : PySem.W.Frag) : Gx := { N := n_is_by_book, sc := defScope s_is_by_book, calm := true, top := true, fns := [("is_row_by_book", spRowBy), ("follows", spFollows)], cons := [], bts := [], bfs := [], exs := [], exm := PySem.W.exmOne K }
theorem sc_is_by_book : FnScope n_is_by_book ["book", "first", "plan"] (defScope s_is_by_book) := ⟨rfl, rfl, rfl, by decide +kernel, rfl, by decide +kernel, by decide +kernel⟩
theorem ck_is_by_book (K : PySem.W.Frag) : (ckS b_is_by_book (g_is_by_book K )).b (defBody s_is_by_book) = true := by kernel_rfl
abbrev s_l_open_cells : Stmt := top 5
def g_l_open_cells (K : PySem.W.Frag) : Gx := { N := n_l_open_cells, sc := defScope s_l_open_cells, calm := true, top := true, fns := [], cons := [], bts := ["abs", "int"], bfs := [], exs := [], exm := PySem.W.exmOne K }
theorem sc_l_open_cells : FnScope n_l_open_cells ["_law_script"] (defScope s_l_open_cells) := ⟨rfl, rfl, rfl, by decide +kernel, rfl, by decide +kernel, by decide +kernel⟩
theorem ck_l_open_cells (K : PySem.W.Frag) : (ckS b_l_open_cells (g_l_open_cells K )).b (defBody s_l_open_cells) = true := by kernel_rfl
abbrev s_l_pick : Stmt := top 6
def g_l_pick (K : PySem.W.Frag) : Gx := { N := n_l_pick, sc := defScope s_l_pick, calm := true, top := true, fns := [], cons := [], bts := ["int", "len"], bfs := [], exs := [], exm := PySem.W.exmOne K }
theorem sc_l_pick : FnScope n_l_pick ["_law_source", "_law_most"] (defScope s_l_pick) := ⟨rfl, rfl, rfl, by decide +kernel, rfl, by decide +kernel, by decide +kernel⟩
theorem ck_l_pick (K : PySem.W.Frag) : (ckS b_l_pick (g_l_pick K )).b (defBody s_l_pick) = true := by kernel_rfl
abbrev s_l_common : Stmt := top 7
def g_l_common (K : PySem.W.Frag) : Gx := { N := n_l_common, sc := defScope s_l_common, calm := true, top := true, fns := [], cons := [], bts := ["abs"], bfs := [], exs := [], exm := PySem.W.exmOne K }
theorem sc_l_common : FnScope n_l_common ["_law_a", "_law_b"] (defScope s_l_common) := ⟨rfl, rfl, rfl, by decide +kernel, rfl, by decide +kernel, by decide +kernel⟩
theorem ck_l_common (K : PySem.W.Frag) : (ckS b_l_common (g_l_common K )).b (defBody s_l_common) = true := by kernel_rfl
abbrev s_l_fraction : Stmt := top 8
def g_l_fraction (K : PySem.W.Frag) : Gx := { N := n_l_fraction, sc := defScope s_l_fraction, calm := true, top := true, fns := [("_law_common", spCommon)], cons := [], bts := [], bfs := [], exs := [], exm := PySem.W.exmOne K }
theorem sc_l_fraction : FnScope n_l_fraction ["_law_n", "_law_d"] (defScope s_l_fraction) := ⟨rfl, rfl, rfl, by decide +kernel, rfl, by decide +kernel, by decide +kernel⟩
theorem ck_l_fraction (K : PySem.W.Frag) : (ckS b_l_fraction (g_l_fraction K )).b (defBody s_l_fraction) = true := by kernel_rfl
abbrev s_l_sum : Stmt := top 9
def g_l_sum (K : PySem.W.Frag) : Gx := { N := n_l_sum, sc := defScope s_l_sum, calm := true, top := true, fns := [("_law_fraction", spLF)], cons := [], bts := [], bfs := [], exs := [], exm := PySem.W.exmOne K }
theorem sc_l_sum : FnScope n_l_sum ["_law_x", "_law_y"] (defScope s_l_sum) := ⟨rfl, rfl, rfl, by decide +kernel, rfl, by decide +kernel, by decide +kernel⟩
theorem ck_l_sum (K : PySem.W.Frag) : (ckS b_l_sum (g_l_sum K )).b (defBody s_l_sum) = true := by kernel_rfl
abbrev s_l_all : Stmt := top 10
def g_l_all (K : PySem.W.Frag) : Gx := { N := n_l_all, sc := defScope s_l_all, calm := true, top := true, fns := [("_law_sum", spBin fun x y => x + y)], cons := [], bts := [], bfs := [], exs := [], exm := PySem.W.exmOne K }
theorem sc_l_all : FnScope n_l_all ["_law_fractions"] (defScope s_l_all) := ⟨rfl, rfl, rfl, by decide +kernel, rfl, by decide +kernel, by decide +kernel⟩
theorem ck_l_all (K : PySem.W.Frag) : (ckS b_l_all (g_l_all K )).b (defBody s_l_all) = true := by kernel_rfl
abbrev s_l_draw_time : Stmt := top 11
def g_l_draw_time (K : PySem.W.Frag) : Gx := { N := n_l_draw_time, sc := defScope s_l_draw_time, calm := true, top := true, fns := [("_law_fraction", spLF), ("_law_pick", spPick)], cons := [], bts := [], bfs := [], exs := [], exm := PySem.W.exmOne K }
theorem sc_l_draw_time : FnScope n_l_draw_time ["_law_source"] (defScope s_l_draw_time) := ⟨rfl, rfl, rfl, by decide +kernel, rfl, by decide +kernel, by decide +kernel⟩
theorem ck_l_draw_time (K : PySem.W.Frag) : (ckS b_l_draw_time (g_l_draw_time K )).b (defBody s_l_draw_time) = true := by kernel_rfl
abbrev s_l_draw_steps : Stmt := top 12
def g_l_draw_steps (K : PySem.W.Frag) : Gx := { N := n_l_draw_steps, sc := defScope s_l_draw_steps, calm := true, top := true, fns := [("_law_pick", spPick), ("_law_draw_time", spDrawTime)], cons := [], bts := ["tuple", "range"], bfs := [], exs := [], exm := PySem.W.exmOne K }
theorem sc_l_draw_steps : FnScope n_l_draw_steps ["_law_source", "_law_many", "_law_most"] (defScope s_l_draw_steps) := ⟨rfl, rfl, rfl, by decide +kernel, rfl, by decide +kernel, by decide +kernel⟩
theorem ck_l_draw_steps (K : PySem.W.Frag) : (ckS b_l_draw_steps (g_l_draw_steps K )).b (defBody s_l_draw_steps) = true := by kernel_rfl
abbrev s_l_draw_plan : Stmt := top 13
def g_l_draw_plan (K : PySem.W.Frag) : Gx := { N := n_l_draw_plan, sc := defScope s_l_draw_plan, calm := true, top := true, fns := [("_law_all", spAll), ("_law_pick", spPick), ("_law_draw_steps", spDrawSteps)], cons := [], bts := ["range"], bfs := [], exs := [], exm := PySem.W.exmOne K }
theorem sc_l_draw_plan : FnScope n_l_draw_plan ["_law_source", "_law_many"] (defScope s_l_draw_plan) := ⟨rfl, rfl, rfl, by decide +kernel, rfl, by decide +kernel, by decide +kernel⟩
theorem ck_l_draw_plan (K : PySem.W.Frag) : (ckS b_l_draw_plan (g_l_draw_plan K )).b (defBody s_l_draw_plan) = true := by kernel_rfl
abbrev s_l_lap_time : Stmt := top 14
def g_l_lap_time (K : PySem.W.Frag) : Gx := { N := n_l_lap_time, sc := defScope s_l_lap_time, calm := true, top := true, fns := [("_law_all", spAll)], cons := [], bts := [], bfs := [], exs := [], exm := PySem.W.exmOne K }
theorem sc_l_lap_time : FnScope n_l_lap_time ["_law_steps"] (defScope s_l_lap_time) := ⟨rfl, rfl, rfl, by decide +kernel, rfl, by decide +kernel, by decide +kernel⟩
theorem ck_l_lap_time (K : PySem.W.Frag) : (ckS b_l_lap_time (g_l_lap_time K )).b (defBody s_l_lap_time) = true := by kernel_rfl
abbrev s_l_draw_book : Stmt := top 15
def g_l_draw_book (K : PySem.W.Frag) : Gx := { N := n_l_draw_book, sc := defScope s_l_draw_book, calm := true, top := true, fns := [("_law_pick", spPick)], cons := [], bts := ["range", "tuple"], bfs := [], exs := [], exm := PySem.W.exmOne K }
theorem sc_l_draw_book : FnScope n_l_draw_book ["_law_source", "_law_many"] (defScope s_l_draw_book) := ⟨rfl, rfl, rfl, by decide +kernel, rfl, by decide +kernel, by decide +kernel⟩
theorem ck_l_draw_book (K : PySem.W.Frag) : (ckS b_l_draw_book (g_l_draw_book K )).b (defBody s_l_draw_book) = true := by kernel_rfl
abbrev s_l_by_book : Stmt := top 16
def g_l_by_book (K : PySem.W.Frag) : Gx := { N := n_l_by_book, sc := defScope s_l_by_book, calm := true, top := true, fns := [], cons := [], bts := ["all", "zip"], bfs := [], exs := [], exm := PySem.W.exmOne K }
theorem sc_l_by_book : FnScope n_l_by_book ["_law_book", "_law_first", "_law_plan"] (defScope s_l_by_book) := ⟨rfl, rfl, rfl, by decide +kernel, rfl, by decide +kernel, by decide +kernel⟩
theorem ck_l_by_book (K : PySem.W.Frag) : (ckS b_l_by_book (g_l_by_book K )).b (defBody s_l_by_book) = true := by kernel_rfl
abbrev s_l_draw_walk : Stmt := top 17
def g_l_draw_walk (K : PySem.W.Frag) : Gx := { N := n_l_draw_walk, sc := defScope s_l_draw_walk, calm := true, top := true, fns := [("_law_pick", spPick)], cons := [], bts := ["range", "len", "list"], bfs := [], exs := [], exm := PySem.W.exmOne K }
theorem sc_l_draw_walk : FnScope n_l_draw_walk ["_law_source", "_law_book", "_law_first", "_law_most"] (defScope s_l_draw_walk) := ⟨rfl, rfl, rfl, by decide +kernel, rfl, by decide +kernel, by decide +kernel⟩
theorem ck_l_draw_walk (K : PySem.W.Frag) : (ckS b_l_draw_walk (g_l_draw_walk K )).b (defBody s_l_draw_walk) = true := by kernel_rfl
abbrev s_l_draw_by : Stmt := top 18
def g_l_draw_by (K : PySem.W.Frag) : Gx := { N := n_l_draw_by, sc := defScope s_l_draw_by, calm := true, top := true, fns := [("_law_lap_time", spLapTime), ("_law_pick", spPick), ("_law_draw_time", spDrawTime), ("_law_draw_walk", spWalk)], cons := [], bts := ["range", "len", "list", "tuple"], bfs := [], exs := [], exm := PySem.W.exmOne K }
theorem sc_l_draw_by : FnScope n_l_draw_by ["_law_source", "_law_book", "_law_first"] (defScope s_l_draw_by) := ⟨rfl, rfl, rfl, by decide +kernel, rfl, by decide +kernel, by decide +kernel⟩
theorem ck_l_draw_by (K : PySem.W.Frag) : (ckS b_l_draw_by (g_l_draw_by K )).b (defBody s_l_draw_by) = true := by kernel_rfl
abbrev s_the_law : Stmt := top 19
def g_the_law (K : PySem.W.Frag) : Gx := { N := n_the_law, sc := defScope s_the_law, calm := true, top := true, fns := [("is_by_book", spByBook), ("_law_by_book", spByBook), ("_law_draw_plan", spDrawPlan), ("_law_draw_by", spDrawBy), ("_law_pick", spPick), ("_law_draw_book", spDrawBook), ("_law_open_cells", spOpen)], cons := [], bts := ["range", "repr", "tuple"], bfs := [], exs := [], exm := PySem.W.exmOne K }
theorem sc_the_law : FnScope n_the_law ["_law_script"] (defScope s_the_law) := ⟨rfl, rfl, rfl, by decide +kernel, rfl, by decide +kernel, by decide +kernel⟩
theorem ck_the_law (K : PySem.W.Frag) : (ckS b_the_law (g_the_law K )).b (defBody s_the_law) = true := by kernel_rfl
section
variable {P : Program} {w : World} {K : PySem.W.Frag} {mg : Str → Option Value} {base : Heap}
structure Txt (K : PySem.W.Frag) (mg : Str → Option Value) : Prop where
  a_follows : At K mg "follows" s_follows ["book", "one", "other"]
  a_is_row_by_book : At K mg "is_row_by_book" s_is_row_by_book ["book", "turns"]
  a_is_by_book : At K mg "is_by_book" s_is_by_book ["book", "first", "plan"]
  a_l_open_cells : At K mg "_law_open_cells" s_l_open_cells ["_law_script"]
  a_l_pick : At K mg "_law_pick" s_l_pick ["_law_source", "_law_most"]
  a_l_common : At K mg "_law_common" s_l_common ["_law_a", "_law_b"]
  a_l_fraction : At K mg "_law_fraction" s_l_fraction ["_law_n", "_law_d"]
  a_l_sum : At K mg "_law_sum" s_l_sum ["_law_x", "_law_y"]
  a_l_all : At K mg "_law_all" s_l_all ["_law_fractions"]
  a_l_draw_time : At K mg "_law_draw_time" s_l_draw_time ["_law_source"]
  a_l_draw_steps : At K mg "_law_draw_steps" s_l_draw_steps ["_law_source", "_law_many", "_law_most"]
  a_l_draw_plan : At K mg "_law_draw_plan" s_l_draw_plan ["_law_source", "_law_many"]
  a_l_lap_time : At K mg "_law_lap_time" s_l_lap_time ["_law_steps"]
  a_l_draw_book : At K mg "_law_draw_book" s_l_draw_book ["_law_source", "_law_many"]
  a_l_by_book : At K mg "_law_by_book" s_l_by_book ["_law_book", "_law_first", "_law_plan"]
  a_l_draw_walk : At K mg "_law_draw_walk" s_l_draw_walk ["_law_source", "_law_book", "_law_first", "_law_most"]
  a_l_draw_by : At K mg "_law_draw_by" s_l_draw_by ["_law_source", "_law_book", "_law_first"]
  a_the_law : At K mg "law" s_the_law ["_law_script"]
  b_all : mg "all" = none
  b_zip : mg "zip" = none
  b_abs : mg "abs" = none
  b_int : mg "int" = none
  b_len : mg "len" = none
  b_tuple : mg "tuple" = none
  b_range : mg "range" = none
  b_list : mg "list" = none
  b_repr : mg "repr" = none
theorem so_follows (T : Txt K mg ) (sm : ∃ o, base.get? sysModules = some o) : StOk P w K mg base 0 (g_follows K ) :=
  st_okc (fun _ h => by cases h) (fun _ h => by cases h) (fun _ h => by cases h) (fun _ h => by cases h) (fun _ h => by cases h) rfl sm
theorem fs_follows (T : Txt K mg ) (sm : ∃ o, base.get? sysModules = some o) : FnS P w K mg base 1 "follows" (spFollows) :=
  at_ok (g_follows K ) b_follows T.a_follows sc_follows rfl rfl (so_follows T sm) (ck_follows K ) fun ts S R X h => w_follows _ _ rfl ts S R X h
theorem so_is_row_by_book (T : Txt K mg ) (sm : ∃ o, base.get? sysModules = some o) : StOk P w K mg base 1 (g_is_row_by_book K ) :=
  st_okc (fun _ h => by
      simp only [g_is_row_by_book, List.mem_cons, List.not_mem_nil, or_false] at h
      rcases h with rfl
      · exact (fs_follows T sm).up (by decide)) (fun _ h => by cases h) (fun _ h => by
      simp only [g_is_row_by_book, List.mem_cons, List.not_mem_nil, or_false] at h
      rcases h with rfl | rfl
      · exact T.b_all
      · exact T.b_zip) (fun _ h => by cases h) (fun _ h => by cases h) rfl sm
theorem fs_is_row_by_book (T : Txt K mg ) (sm : ∃ o, base.get? sysModules = some o) : FnS P w K mg base 2 "is_row_by_book" (spRowBy) :=
  at_ok (g_is_row_by_book K ) b_is_row_by_book T.a_is_row_by_book sc_is_row_by_book rfl rfl (so_is_row_by_book T sm) (ck_is_row_by_book K ) fun ts S R X h => w_rowBy _ _ rfl rfl ts S R X h
theorem so_is_by_book (T : Txt K mg ) (sm : ∃ o, base.get? sysModules = some o) : StOk P w K mg base 2 (g_is_by_book K ) :=
  st_okc (fun _ h => by
      simp only [g_is_by_book, List.mem_cons, List.not_mem_nil, or_false] at h
      rcases h with rfl | rfl
      · exact (fs_is_row_by_book T sm).up (by decide)
      · exact (fs_follows T sm).up (by decide)) (fun _ h => by cases h) (fun _ h => by cases h) (fun _ h => by cases h) (fun _ h => by cases h) rfl sm
theorem fs_is_by_book (T : Txt K mg ) (sm : ∃ o, base.get? sysModules = some o) : FnS P w K mg base 3 "is_by_book" (spByBook) :=
  at_ok (g_is_by_book K ) b_is_by_book T.a_is_by_book sc_is_by_book rfl rfl (so_is_by_book T sm) (ck_is_by_book K ) fun ts S R X h => w_byBook _ _ rfl rfl rfl ts S R X h
theorem so_l_open_cells (T : Txt K mg ) (sm : ∃ o, base.get? sysModules = some o) : StOk P w K mg base 0 (g_l_open_cells K ) :=
  st_okc (fun _ h => by cases h) (fun _ h => by cases h) (fun _ h => by
      simp only [g_l_open_cells, List.mem_cons, List.not_mem_nil, or_false] at h
      rcases h with rfl | rfl
      · exact T.b_abs
      · exact T.b_int) (fun _ h => by cases h) (fun _ h => by cases h) rfl sm
theorem fs_l_open_cells (T : Txt K mg ) (sm : ∃ o, base.get? sysModules = some o) : FnS P w K mg base 1 "_law_open_cells" (spOpen) :=
  at_ok (g_l_open_cells K ) b_l_open_cells T.a_l_open_cells sc_l_open_cells rfl rfl (so_l_open_cells T sm) (ck_l_open_cells K ) fun ts S R X h => w_open _ _ rfl ts S R X h
theorem so_l_pick (T : Txt K mg ) (sm : ∃ o, base.get? sysModules = some o) : StOk P w K mg base 0 (g_l_pick K ) :=
  st_okc (fun _ h => by cases h) (fun _ h => by cases h) (fun _ h => by
      simp only [g_l_pick, List.mem_cons, List.not_mem_nil, or_false] at h
      rcases h with rfl | rfl
      · exact T.b_int
      · exact T.b_len) (fun _ h => by cases h) (fun _ h => by cases h) rfl sm
theorem fs_l_pick (T : Txt K mg ) (sm : ∃ o, base.get? sysModules = some o) : FnS P w K mg base 1 "_law_pick" (spPick) :=
  at_ok (g_l_pick K ) b_l_pick T.a_l_pick sc_l_pick rfl rfl (so_l_pick T sm) (ck_l_pick K ) fun ts S R X h => w_pick _ _ rfl ts S R X h
theorem so_l_common (T : Txt K mg ) (sm : ∃ o, base.get? sysModules = some o) : StOk P w K mg base 0 (g_l_common K ) :=
  st_okc (fun _ h => by cases h) (fun _ h => by cases h) (fun _ h => by
      simp only [g_l_common, List.mem_cons, List.not_mem_nil, or_false] at h
      rcases h with rfl
      · exact T.b_abs) (fun _ h => by cases h) (fun _ h => by cases h) rfl sm
theorem fs_l_common (T : Txt K mg ) (sm : ∃ o, base.get? sysModules = some o) : FnS P w K mg base 1 "_law_common" (spCommon) :=
  at_ok (g_l_common K ) b_l_common T.a_l_common sc_l_common rfl rfl (so_l_common T sm) (ck_l_common K ) fun ts S R X h => w_common _ _ rfl ts S R X h
theorem so_l_fraction (T : Txt K mg ) (sm : ∃ o, base.get? sysModules = some o) : StOk P w K mg base 1 (g_l_fraction K ) :=
  st_okc (fun _ h => by
      simp only [g_l_fraction, List.mem_cons, List.not_mem_nil, or_false] at h
      rcases h with rfl
      · exact (fs_l_common T sm).up (by decide)) (fun _ h => by cases h) (fun _ h => by cases h) (fun _ h => by cases h) (fun _ h => by cases h) rfl sm
theorem fs_l_fraction (T : Txt K mg ) (sm : ∃ o, base.get? sysModules = some o) : FnS P w K mg base 2 "_law_fraction" (spLF) :=
  at_ok (g_l_fraction K ) b_l_fraction T.a_l_fraction sc_l_fraction rfl rfl (so_l_fraction T sm) (ck_l_fraction K ) fun ts S R X h => w_lf _ _ rfl rfl ts S R X h
theorem so_l_sum (T : Txt K mg ) (sm : ∃ o, base.get? sysModules = some o) : StOk P w K mg base 2 (g_l_sum K ) :=
  st_okc (fun _ h => by
      simp only [g_l_sum, List.mem_cons, List.not_mem_nil, or_false] at h
      rcases h with rfl
      · exact (fs_l_fraction T sm).up (by decide)) (fun _ h => by cases h) (fun _ h => by cases h) (fun _ h => by cases h) (fun _ h => by cases h) rfl sm
theorem fs_l_sum (T : Txt K mg ) (sm : ∃ o, base.get? sysModules = some o) : FnS P w K mg base 3 "_law_sum" (spBin fun x y => x + y) :=
  at_ok (g_l_sum K ) b_l_sum T.a_l_sum sc_l_sum rfl rfl (so_l_sum T sm) (ck_l_sum K ) fun ts S R X h => w_lsum _ _ rfl rfl ts S R X h
theorem so_l_all (T : Txt K mg ) (sm : ∃ o, base.get? sysModules = some o) : StOk P w K mg base 3 (g_l_all K ) :=
  st_okc (fun _ h => by
      simp only [g_l_all, List.mem_cons, List.not_mem_nil, or_false] at h
      rcases h with rfl
      · exact (fs_l_sum T sm).up (by decide)) (fun _ h => by cases h) (fun _ h => by cases h) (fun _ h => by cases h) (fun _ h => by cases h) rfl sm
theorem fs_l_all (T : Txt K mg ) (sm : ∃ o, base.get? sysModules = some o) : FnS P w K mg base 4 "_law_all" (spAll) :=
  at_ok (g_l_all K ) b_l_all T.a_l_all sc_l_all rfl rfl (so_l_all T sm) (ck_l_all K ) fun ts S R X h => w_all _ _ rfl rfl ts S R X h
theorem so_l_draw_time (T : Txt K mg ) (sm : ∃ o, base.get? sysModules = some o) : StOk P w K mg base 2 (g_l_draw_time K ) :=
  st_okc (fun _ h => by
      simp only [g_l_draw_time, List.mem_cons, List.not_mem_nil, or_false] at h
      rcases h with rfl | rfl
      · exact (fs_l_fraction T sm).up (by decide)
      · exact (fs_l_pick T sm).up (by decide)) (fun _ h => by cases h) (fun _ h => by cases h) (fun _ h => by cases h) (fun _ h => by cases h) rfl sm
theorem fs_l_draw_time (T : Txt K mg ) (sm : ∃ o, base.get? sysModules = some o) : FnS P w K mg base 3 "_law_draw_time" (spDrawTime) :=
  at_ok (g_l_draw_time K ) b_l_draw_time T.a_l_draw_time sc_l_draw_time rfl rfl (so_l_draw_time T sm) (ck_l_draw_time K ) fun ts S R X h => w_drawTime _ _ rfl rfl rfl ts S R X h
theorem so_l_draw_steps (T : Txt K mg ) (sm : ∃ o, base.get? sysModules = some o) : StOk P w K mg base 3 (g_l_draw_steps K ) :=
  st_okc (fun _ h => by
      simp only [g_l_draw_steps, List.mem_cons, List.not_mem_nil, or_false] at h
      rcases h with rfl | rfl
      · exact (fs_l_pick T sm).up (by decide)
      · exact (fs_l_draw_time T sm).up (by decide)) (fun _ h => by cases h) (fun _ h => by
      simp only [g_l_draw_steps, List.mem_cons, List.not_mem_nil, or_false] at h
      rcases h with rfl | rfl
      · exact T.b_tuple
      · exact T.b_range) (fun _ h => by cases h) (fun _ h => by cases h) rfl sm
theorem fs_l_draw_steps (T : Txt K mg ) (sm : ∃ o, base.get? sysModules = some o) : FnS P w K mg base 4 "_law_draw_steps" (spDrawSteps) :=
  at_ok (g_l_draw_steps K ) b_l_draw_steps T.a_l_draw_steps sc_l_draw_steps rfl rfl (so_l_draw_steps T sm) (ck_l_draw_steps K ) fun ts S R X h => w_drawSteps _ _ rfl rfl rfl ts S R X h
theorem so_l_draw_plan (T : Txt K mg ) (sm : ∃ o, base.get? sysModules = some o) : StOk P w K mg base 4 (g_l_draw_plan K ) :=
  st_okc (fun _ h => by
      simp only [g_l_draw_plan, List.mem_cons, List.not_mem_nil, or_false] at h
      rcases h with rfl | rfl | rfl
      · exact (fs_l_all T sm).up (by decide)
      · exact (fs_l_pick T sm).up (by decide)
      · exact (fs_l_draw_steps T sm).up (by decide)) (fun _ h => by cases h) (fun _ h => by
      simp only [g_l_draw_plan, List.mem_cons, List.not_mem_nil, or_false] at h
      rcases h with rfl
      · exact T.b_range) (fun _ h => by cases h) (fun _ h => by cases h) rfl sm
theorem fs_l_draw_plan (T : Txt K mg ) (sm : ∃ o, base.get? sysModules = some o) : FnS P w K mg base 5 "_law_draw_plan" (spDrawPlan) :=
  at_ok (g_l_draw_plan K ) b_l_draw_plan T.a_l_draw_plan sc_l_draw_plan rfl rfl (so_l_draw_plan T sm) (ck_l_draw_plan K ) fun ts S R X h => w_drawPlan _ _ rfl rfl rfl rfl ts S R X h
theorem so_l_lap_time (T : Txt K mg ) (sm : ∃ o, base.get? sysModules = some o) : StOk P w K mg base 4 (g_l_lap_time K ) :=
  st_okc (fun _ h => by
      simp only [g_l_lap_time, List.mem_cons, List.not_mem_nil, or_false] at h
      rcases h with rfl
      · exact (fs_l_all T sm).up (by decide)) (fun _ h => by cases h) (fun _ h => by cases h) (fun _ h => by cases h) (fun _ h => by cases h) rfl sm
theorem fs_l_lap_time (T : Txt K mg ) (sm : ∃ o, base.get? sysModules = some o) : FnS P w K mg base 5 "_law_lap_time" (spLapTime) :=
  at_ok (g_l_lap_time K ) b_l_lap_time T.a_l_lap_time sc_l_lap_time rfl rfl (so_l_lap_time T sm) (ck_l_lap_time K ) fun ts S R X h => w_lapTime _ _ rfl rfl ts S R X h
theorem so_l_draw_book (T : Txt K mg ) (sm : ∃ o, base.get? sysModules = some o) : StOk P w K mg base 1 (g_l_draw_book K ) :=
  st_okc (fun _ h => by
      simp only [g_l_draw_book, List.mem_cons, List.not_mem_nil, or_false] at h
      rcases h with rfl
      · exact (fs_l_pick T sm).up (by decide)) (fun _ h => by cases h) (fun _ h => by
      simp only [g_l_draw_book, List.mem_cons, List.not_mem_nil, or_false] at h
      rcases h with rfl | rfl
      · exact T.b_range
      · exact T.b_tuple) (fun _ h => by cases h) (fun _ h => by cases h) rfl sm
theorem fs_l_draw_book (T : Txt K mg ) (sm : ∃ o, base.get? sysModules = some o) : FnS P w K mg base 2 "_law_draw_book" (spDrawBook) :=
  at_ok (g_l_draw_book K ) b_l_draw_book T.a_l_draw_book sc_l_draw_book rfl rfl (so_l_draw_book T sm) (ck_l_draw_book K ) fun ts S R X h => w_drawBook _ _ rfl rfl ts S R X h
theorem so_l_by_book (T : Txt K mg ) (sm : ∃ o, base.get? sysModules = some o) : StOk P w K mg base 0 (g_l_by_book K ) :=
  st_okc (fun _ h => by cases h) (fun _ h => by cases h) (fun _ h => by
      simp only [g_l_by_book, List.mem_cons, List.not_mem_nil, or_false] at h
      rcases h with rfl | rfl
      · exact T.b_all
      · exact T.b_zip) (fun _ h => by cases h) (fun _ h => by cases h) rfl sm
theorem fs_l_by_book (T : Txt K mg ) (sm : ∃ o, base.get? sysModules = some o) : FnS P w K mg base 1 "_law_by_book" (spByBook) :=
  at_ok (g_l_by_book K ) b_l_by_book T.a_l_by_book sc_l_by_book rfl rfl (so_l_by_book T sm) (ck_l_by_book K ) fun ts S R X h => w_lByBook _ _ rfl ts S R X h
theorem so_l_draw_walk (T : Txt K mg ) (sm : ∃ o, base.get? sysModules = some o) : StOk P w K mg base 1 (g_l_draw_walk K ) :=
  st_okc (fun _ h => by
      simp only [g_l_draw_walk, List.mem_cons, List.not_mem_nil, or_false] at h
      rcases h with rfl
      · exact (fs_l_pick T sm).up (by decide)) (fun _ h => by cases h) (fun _ h => by
      simp only [g_l_draw_walk, List.mem_cons, List.not_mem_nil, or_false] at h
      rcases h with rfl | rfl | rfl
      · exact T.b_range
      · exact T.b_len
      · exact T.b_list) (fun _ h => by cases h) (fun _ h => by cases h) rfl sm
theorem fs_l_draw_walk (T : Txt K mg ) (sm : ∃ o, base.get? sysModules = some o) : FnS P w K mg base 2 "_law_draw_walk" (spWalk) :=
  at_ok (g_l_draw_walk K ) b_l_draw_walk T.a_l_draw_walk sc_l_draw_walk rfl rfl (so_l_draw_walk T sm) (ck_l_draw_walk K ) fun ts S R X h => w_walk _ _ rfl rfl ts S R X h
theorem so_l_draw_by (T : Txt K mg ) (sm : ∃ o, base.get? sysModules = some o) : StOk P w K mg base 5 (g_l_draw_by K ) :=
  st_okc (fun _ h => by
      simp only [g_l_draw_by, List.mem_cons, List.not_mem_nil, or_false] at h
      rcases h with rfl | rfl | rfl | rfl
      · exact (fs_l_lap_time T sm).up (by decide)
      · exact (fs_l_pick T sm).up (by decide)
      · exact (fs_l_draw_time T sm).up (by decide)
      · exact (fs_l_draw_walk T sm).up (by decide)) (fun _ h => by cases h) (fun _ h => by
      simp only [g_l_draw_by, List.mem_cons, List.not_mem_nil, or_false] at h
      rcases h with rfl | rfl | rfl | rfl
      · exact T.b_range
      · exact T.b_len
      · exact T.b_list
      · exact T.b_tuple) (fun _ h => by cases h) (fun _ h => by cases h) rfl sm
theorem fs_l_draw_by (T : Txt K mg ) (sm : ∃ o, base.get? sysModules = some o) : FnS P w K mg base 6 "_law_draw_by" (spDrawBy) :=
  at_ok (g_l_draw_by K ) b_l_draw_by T.a_l_draw_by sc_l_draw_by rfl rfl (so_l_draw_by T sm) (ck_l_draw_by K ) fun ts S R X h => w_drawBy _ _ rfl rfl rfl rfl rfl ts S R X h
theorem so_the_law (T : Txt K mg ) (sm : ∃ o, base.get? sysModules = some o) : StOk P w K mg base 6 (g_the_law K ) :=
  st_okc (fun _ h => by
      simp only [g_the_law, List.mem_cons, List.not_mem_nil, or_false] at h
      rcases h with rfl | rfl | rfl | rfl | rfl | rfl | rfl
      · exact (fs_is_by_book T sm).up (by decide)
      · exact (fs_l_by_book T sm).up (by decide)
      · exact (fs_l_draw_plan T sm).up (by decide)
      · exact (fs_l_draw_by T sm).up (by decide)
      · exact (fs_l_pick T sm).up (by decide)
      · exact (fs_l_draw_book T sm).up (by decide)
      · exact (fs_l_open_cells T sm).up (by decide)) (fun _ h => by cases h) (fun _ h => by
      simp only [g_the_law, List.mem_cons, List.not_mem_nil, or_false] at h
      rcases h with rfl | rfl | rfl
      · exact T.b_range
      · exact T.b_repr
      · exact T.b_tuple) (fun _ h => by cases h) (fun _ h => by cases h) rfl sm
theorem fs_the_law (T : Txt K mg ) (sm : ∃ o, base.get? sysModules = some o) {f : Addr} {fd : FuncData} (F : Fun K "law" "law" s_the_law f fd) : FnG P w K mg base 7 f fd ["_law_script"] (lSp K spLaw) :=
  def_ok (g_the_law K ) b_the_law F sc_the_law rfl rfl (so_the_law T sm) (ck_the_law K ) fun ts S R X h => w_law _ _ rfl rfl rfl rfl rfl rfl rfl rfl ts S R X h
end
theorem all_mk {l : PySem.W.OpenLaw} {w : World} {K : PySem.W.Frag} {h : Heap} {mg : Str → Option Value} {fa f0 f1 f2 f3 f4 f5 f6 f7 f8 f9 f10 f11 f12 f13 f14 f15 f16 f17  : Addr} (X : K.In h) (G : h.Ns mainGlobals mg) (hfa : mg "law" = some (.ref fa))
    {od0 an0 od1 an1 od2 an2 od3 an3 od4 an4 od5 an5 od6 an6 od7 an7 od8 an8 od9 an9 od10 an10 od11 an11 od12 an12 od13 an13 od14 an14 od15 an15 od16 an16 od17 an17 : Option Addr} {sl0 sl1 sl2 sl3 sl4 sl5 sl6 sl7 sl8 sl9 sl10 sl11 sl12 sl13 sl14 sl15 sl16 sl17 : Array (Option Value)} {oc0 kV0 dc0 pm0 cd0 ct0 oc1 kV1 dc1 pm1 cd1 ct1 oc2 kV2 dc2 pm2 cd2 ct2 oc3 kV3 dc3 pm3 cd3 ct3 oc4 kV4 dc4 pm4 cd4 ct4 oc5 kV5 dc5 pm5 cd5 ct5 oc6 kV6 dc6 pm6 cd6 ct6 oc7 kV7 dc7 pm7 cd7 ct7 oc8 kV8 dc8 pm8 cd8 ct8 oc9 kV9 dc9 pm9 cd9 ct9 oc10 kV10 dc10 pm10 cd10 ct10 oc11 kV11 dc11 pm11 cd11 ct11 oc12 kV12 dc12 pm12 cd12 ct12 oc13 kV13 dc13 pm13 cd13 ct13 oc14 kV14 dc14 pm14 cd14 ct14 oc15 kV15 dc15 pm15 cd15 ct15 oc16 kV16 dc16 pm16 cd16 ct16 oc17 kV17 dc17 pm17 cd17 ct17 : Value}
    (a0 : PySem.W.nsIn K mainGlobals "follows" = some (some (.ref f0)))
    (l0 : K.lookup f0 = some ⟨oc0, od0, .func (PySem.W.fnOf "follows" "follows" (defArgs s_follows) (defBody s_follows) (defScope s_follows) .none kV0 dc0 pm0 an0 cd0 ct0), sl0⟩)
    (c0 : PySem.W.codeIn K cd0 "follows" = true)
    (k0 : PySem.W.keepIn K (.ref f0) = true)
    (a1 : PySem.W.nsIn K mainGlobals "is_row_by_book" = some (some (.ref f1)))
    (l1 : K.lookup f1 = some ⟨oc1, od1, .func (PySem.W.fnOf "is_row_by_book" "is_row_by_book" (defArgs s_is_row_by_book) (defBody s_is_row_by_book) (defScope s_is_row_by_book) .none kV1 dc1 pm1 an1 cd1 ct1), sl1⟩)
    (c1 : PySem.W.codeIn K cd1 "is_row_by_book" = true)
    (k1 : PySem.W.keepIn K (.ref f1) = true)
    (a2 : PySem.W.nsIn K mainGlobals "is_by_book" = some (some (.ref f2)))
    (l2 : K.lookup f2 = some ⟨oc2, od2, .func (PySem.W.fnOf "is_by_book" "is_by_book" (defArgs s_is_by_book) (defBody s_is_by_book) (defScope s_is_by_book) .none kV2 dc2 pm2 an2 cd2 ct2), sl2⟩)
    (c2 : PySem.W.codeIn K cd2 "is_by_book" = true)
    (k2 : PySem.W.keepIn K (.ref f2) = true)
    (a3 : PySem.W.nsIn K mainGlobals "_law_open_cells" = some (some (.ref f3)))
    (l3 : K.lookup f3 = some ⟨oc3, od3, .func (PySem.W.fnOf "_law_open_cells" "_law_open_cells" (defArgs s_l_open_cells) (defBody s_l_open_cells) (defScope s_l_open_cells) .none kV3 dc3 pm3 an3 cd3 ct3), sl3⟩)
    (c3 : PySem.W.codeIn K cd3 "_law_open_cells" = true)
    (k3 : PySem.W.keepIn K (.ref f3) = true)
    (a4 : PySem.W.nsIn K mainGlobals "_law_pick" = some (some (.ref f4)))
    (l4 : K.lookup f4 = some ⟨oc4, od4, .func (PySem.W.fnOf "_law_pick" "_law_pick" (defArgs s_l_pick) (defBody s_l_pick) (defScope s_l_pick) .none kV4 dc4 pm4 an4 cd4 ct4), sl4⟩)
    (c4 : PySem.W.codeIn K cd4 "_law_pick" = true)
    (k4 : PySem.W.keepIn K (.ref f4) = true)
    (a5 : PySem.W.nsIn K mainGlobals "_law_common" = some (some (.ref f5)))
    (l5 : K.lookup f5 = some ⟨oc5, od5, .func (PySem.W.fnOf "_law_common" "_law_common" (defArgs s_l_common) (defBody s_l_common) (defScope s_l_common) .none kV5 dc5 pm5 an5 cd5 ct5), sl5⟩)
    (c5 : PySem.W.codeIn K cd5 "_law_common" = true)
    (k5 : PySem.W.keepIn K (.ref f5) = true)
    (a6 : PySem.W.nsIn K mainGlobals "_law_fraction" = some (some (.ref f6)))
    (l6 : K.lookup f6 = some ⟨oc6, od6, .func (PySem.W.fnOf "_law_fraction" "_law_fraction" (defArgs s_l_fraction) (defBody s_l_fraction) (defScope s_l_fraction) .none kV6 dc6 pm6 an6 cd6 ct6), sl6⟩)
    (c6 : PySem.W.codeIn K cd6 "_law_fraction" = true)
    (k6 : PySem.W.keepIn K (.ref f6) = true)
    (a7 : PySem.W.nsIn K mainGlobals "_law_sum" = some (some (.ref f7)))
    (l7 : K.lookup f7 = some ⟨oc7, od7, .func (PySem.W.fnOf "_law_sum" "_law_sum" (defArgs s_l_sum) (defBody s_l_sum) (defScope s_l_sum) .none kV7 dc7 pm7 an7 cd7 ct7), sl7⟩)
    (c7 : PySem.W.codeIn K cd7 "_law_sum" = true)
    (k7 : PySem.W.keepIn K (.ref f7) = true)
    (a8 : PySem.W.nsIn K mainGlobals "_law_all" = some (some (.ref f8)))
    (l8 : K.lookup f8 = some ⟨oc8, od8, .func (PySem.W.fnOf "_law_all" "_law_all" (defArgs s_l_all) (defBody s_l_all) (defScope s_l_all) .none kV8 dc8 pm8 an8 cd8 ct8), sl8⟩)
    (c8 : PySem.W.codeIn K cd8 "_law_all" = true)
    (k8 : PySem.W.keepIn K (.ref f8) = true)
    (a9 : PySem.W.nsIn K mainGlobals "_law_draw_time" = some (some (.ref f9)))
    (l9 : K.lookup f9 = some ⟨oc9, od9, .func (PySem.W.fnOf "_law_draw_time" "_law_draw_time" (defArgs s_l_draw_time) (defBody s_l_draw_time) (defScope s_l_draw_time) .none kV9 dc9 pm9 an9 cd9 ct9), sl9⟩)
    (c9 : PySem.W.codeIn K cd9 "_law_draw_time" = true)
    (k9 : PySem.W.keepIn K (.ref f9) = true)
    (a10 : PySem.W.nsIn K mainGlobals "_law_draw_steps" = some (some (.ref f10)))
    (l10 : K.lookup f10 = some ⟨oc10, od10, .func (PySem.W.fnOf "_law_draw_steps" "_law_draw_steps" (defArgs s_l_draw_steps) (defBody s_l_draw_steps) (defScope s_l_draw_steps) .none kV10 dc10 pm10 an10 cd10 ct10), sl10⟩)
    (c10 : PySem.W.codeIn K cd10 "_law_draw_steps" = true)
    (k10 : PySem.W.keepIn K (.ref f10) = true)
    (a11 : PySem.W.nsIn K mainGlobals "_law_draw_plan" = some (some (.ref f11)))
    (l11 : K.lookup f11 = some ⟨oc11, od11, .func (PySem.W.fnOf "_law_draw_plan" "_law_draw_plan" (defArgs s_l_draw_plan) (defBody s_l_draw_plan) (defScope s_l_draw_plan) .none kV11 dc11 pm11 an11 cd11 ct11), sl11⟩)
    (c11 : PySem.W.codeIn K cd11 "_law_draw_plan" = true)
    (k11 : PySem.W.keepIn K (.ref f11) = true)
    (a12 : PySem.W.nsIn K mainGlobals "_law_lap_time" = some (some (.ref f12)))
    (l12 : K.lookup f12 = some ⟨oc12, od12, .func (PySem.W.fnOf "_law_lap_time" "_law_lap_time" (defArgs s_l_lap_time) (defBody s_l_lap_time) (defScope s_l_lap_time) .none kV12 dc12 pm12 an12 cd12 ct12), sl12⟩)
    (c12 : PySem.W.codeIn K cd12 "_law_lap_time" = true)
    (k12 : PySem.W.keepIn K (.ref f12) = true)
    (a13 : PySem.W.nsIn K mainGlobals "_law_draw_book" = some (some (.ref f13)))
    (l13 : K.lookup f13 = some ⟨oc13, od13, .func (PySem.W.fnOf "_law_draw_book" "_law_draw_book" (defArgs s_l_draw_book) (defBody s_l_draw_book) (defScope s_l_draw_book) .none kV13 dc13 pm13 an13 cd13 ct13), sl13⟩)
    (c13 : PySem.W.codeIn K cd13 "_law_draw_book" = true)
    (k13 : PySem.W.keepIn K (.ref f13) = true)
    (a14 : PySem.W.nsIn K mainGlobals "_law_by_book" = some (some (.ref f14)))
    (l14 : K.lookup f14 = some ⟨oc14, od14, .func (PySem.W.fnOf "_law_by_book" "_law_by_book" (defArgs s_l_by_book) (defBody s_l_by_book) (defScope s_l_by_book) .none kV14 dc14 pm14 an14 cd14 ct14), sl14⟩)
    (c14 : PySem.W.codeIn K cd14 "_law_by_book" = true)
    (k14 : PySem.W.keepIn K (.ref f14) = true)
    (a15 : PySem.W.nsIn K mainGlobals "_law_draw_walk" = some (some (.ref f15)))
    (l15 : K.lookup f15 = some ⟨oc15, od15, .func (PySem.W.fnOf "_law_draw_walk" "_law_draw_walk" (defArgs s_l_draw_walk) (defBody s_l_draw_walk) (defScope s_l_draw_walk) .none kV15 dc15 pm15 an15 cd15 ct15), sl15⟩)
    (c15 : PySem.W.codeIn K cd15 "_law_draw_walk" = true)
    (k15 : PySem.W.keepIn K (.ref f15) = true)
    (a16 : PySem.W.nsIn K mainGlobals "_law_draw_by" = some (some (.ref f16)))
    (l16 : K.lookup f16 = some ⟨oc16, od16, .func (PySem.W.fnOf "_law_draw_by" "_law_draw_by" (defArgs s_l_draw_by) (defBody s_l_draw_by) (defScope s_l_draw_by) .none kV16 dc16 pm16 an16 cd16 ct16), sl16⟩)
    (c16 : PySem.W.codeIn K cd16 "_law_draw_by" = true)
    (k16 : PySem.W.keepIn K (.ref f16) = true)
    (a17 : PySem.W.nsIn K mainGlobals "law" = some (some (.ref f17)))
    (l17 : K.lookup f17 = some ⟨oc17, od17, .func (PySem.W.fnOf "law" "law" (defArgs s_the_law) (defBody s_the_law) (defScope s_the_law) .none kV17 dc17 pm17 an17 cd17 ct17), sl17⟩)
    (c17 : PySem.W.codeIn K cd17 "law" = true)
    (k17 : PySem.W.keepIn K (.ref f17) = true)
    (b_all : PySem.W.nsIn K mainGlobals "all" = some none)
    (b_zip : PySem.W.nsIn K mainGlobals "zip" = some none)
    (b_abs : PySem.W.nsIn K mainGlobals "abs" = some none)
    (b_int : PySem.W.nsIn K mainGlobals "int" = some none)
    (b_len : PySem.W.nsIn K mainGlobals "len" = some none)
    (b_tuple : PySem.W.nsIn K mainGlobals "tuple" = some none)
    (b_range : PySem.W.nsIn K mainGlobals "range" = some none)
    (b_list : PySem.W.nsIn K mainGlobals "list" = some none)
    (b_repr : PySem.W.nsIn K mainGlobals "repr" = some none)
    (nl : noLists K = true) :
    noLists K = true ∧ ∃ fd : FuncData, (∀ (s : Shared) (u : Value), BindsTo s fd ⟨[u], []⟩ [("_law_script", u)]) ∧
      ∀ base : Heap, K.In base → base.Ns mainGlobals mg → (∃ o, base.get? sysModules = some o) → FnG l.prog w K mg base 7 fa fd ["_law_script"] (lSp K spLaw) := by
  have e := hfa.symm.trans (PySem.W.mg_of X G a17)
  cases e
  have T : Txt K mg  := { 
    a_follows := at_mk X G a0 l0 c0 k0 fun _ _ _ _ _ _ us hl => match us, hl with | [_, _, _], _ => rfl, 
    a_is_row_by_book := at_mk X G a1 l1 c1 k1 fun _ _ _ _ _ _ us hl => match us, hl with | [_, _], _ => rfl, 
    a_is_by_book := at_mk X G a2 l2 c2 k2 fun _ _ _ _ _ _ us hl => match us, hl with | [_, _, _], _ => rfl, 
    a_l_open_cells := at_mk X G a3 l3 c3 k3 fun _ _ _ _ _ _ us hl => match us, hl with | [_], _ => rfl, 
    a_l_pick := at_mk X G a4 l4 c4 k4 fun _ _ _ _ _ _ us hl => match us, hl with | [_, _], _ => rfl, 
    a_l_common := at_mk X G a5 l5 c5 k5 fun _ _ _ _ _ _ us hl => match us, hl with | [_, _], _ => rfl, 
    a_l_fraction := at_mk X G a6 l6 c6 k6 fun _ _ _ _ _ _ us hl => match us, hl with | [_, _], _ => rfl, 
    a_l_sum := at_mk X G a7 l7 c7 k7 fun _ _ _ _ _ _ us hl => match us, hl with | [_, _], _ => rfl, 
    a_l_all := at_mk X G a8 l8 c8 k8 fun _ _ _ _ _ _ us hl => match us, hl with | [_], _ => rfl, 
    a_l_draw_time := at_mk X G a9 l9 c9 k9 fun _ _ _ _ _ _ us hl => match us, hl with | [_], _ => rfl, 
    a_l_draw_steps := at_mk X G a10 l10 c10 k10 fun _ _ _ _ _ _ us hl => match us, hl with | [_, _, _], _ => rfl, 
    a_l_draw_plan := at_mk X G a11 l11 c11 k11 fun _ _ _ _ _ _ us hl => match us, hl with | [_, _], _ => rfl, 
    a_l_lap_time := at_mk X G a12 l12 c12 k12 fun _ _ _ _ _ _ us hl => match us, hl with | [_], _ => rfl, 
    a_l_draw_book := at_mk X G a13 l13 c13 k13 fun _ _ _ _ _ _ us hl => match us, hl with | [_, _], _ => rfl, 
    a_l_by_book := at_mk X G a14 l14 c14 k14 fun _ _ _ _ _ _ us hl => match us, hl with | [_, _, _], _ => rfl, 
    a_l_draw_walk := at_mk X G a15 l15 c15 k15 fun _ _ _ _ _ _ us hl => match us, hl with | [_, _, _, _], _ => rfl, 
    a_l_draw_by := at_mk X G a16 l16 c16 k16 fun _ _ _ _ _ _ us hl => match us, hl with | [_, _, _], _ => rfl, 
    a_the_law := at_mk X G a17 l17 c17 k17 fun _ _ _ _ _ _ us hl => match us, hl with | [_], _ => rfl, 
    b_all := PySem.W.mg_none_of X G b_all, 
    b_zip := PySem.W.mg_none_of X G b_zip, 
    b_abs := PySem.W.mg_none_of X G b_abs, 
    b_int := PySem.W.mg_none_of X G b_int, 
    b_len := PySem.W.mg_none_of X G b_len, 
    b_tuple := PySem.W.mg_none_of X G b_tuple, 
    b_range := PySem.W.mg_none_of X G b_range, 
    b_list := PySem.W.mg_none_of X G b_list, 
    b_repr := PySem.W.mg_none_of X G b_repr }
  have F := fun_mk (st := s_the_law) l17 c17 k17
  exact ⟨nl, PySem.W.fnOf "law" "law" (defArgs s_the_law) (defBody s_the_law) (defScope s_the_law) .none kV17 dc17 pm17 an17 cd17 ct17, fun s v => .of_eq rfl, fun base _ _ sm => fs_the_law T sm F⟩
end K82
open PySem PySem.W PyProof.Rows
local macro_rules | `(tactic| o_head ($f:ident $k $a $e)) => `(tactic| o_head (TP.smHook ($f $k $a $e)))
set_option maxRecDepth 100000 in
set_option maxHeartbeats 0 in
theorem PySem.Challenge.cw_ledlevels_k82_plans_by_books_holds : PySem.Challenge.rw_ledlevels_k82_plans_by_books.Holds := by
  w_on; o_law; k_head; (case hw => w_witness2)
  k_fill
  refine TP.walk_T (l := PySem.Challenge.rw_ledlevels_k82_plans_by_books) (n := 63) (k := 7) (x := "_law_script") (sp := K82.spLaw) rfl (by decide) rfl ⟨rfl, by decide, by decide⟩ (fun w h Y => ⟨PySem.W.kIn_of Y.1, Y.2⟩) ?F (fun ns hl => ⟨ns, rfl, hl, fun _ => rfl⟩)
  case F =>
    intro w mg fa h KX G hmg
    refine' K82.all_mk KX G hmg ?a0 ?l0 ?c0 ?k0 ?a1 ?l1 ?c1 ?k1 ?a2 ?l2 ?c2 ?k2 ?a3 ?l3 ?c3 ?k3 ?a4 ?l4 ?c4 ?k4 ?a5 ?l5 ?c5 ?k5 ?a6 ?l6 ?c6 ?k6 ?a7 ?l7 ?c7 ?k7 ?a8 ?l8 ?c8 ?k8 ?a9 ?l9 ?c9 ?k9 ?a10 ?l10 ?c10 ?k10 ?a11 ?l11 ?c11 ?k11 ?a12 ?l12 ?c12 ?k12 ?a13 ?l13 ?c13 ?k13 ?a14 ?l14 ?c14 ?k14 ?a15 ?l15 ?c15 ?k15 ?a16 ?l16 ?c16 ?k16 ?a17 ?l17 ?c17 ?k17 ?b_all ?b_zip ?b_abs ?b_int ?b_len ?b_tuple ?b_range ?b_list ?b_repr ?nl
    (case a0 => k_is)
    (case l0 => k_is)
    (case c0 => k_is)
    (case k0 => k_is)
    (case a1 => k_is)
    (case l1 => k_is)
    (case c1 => k_is)
    (case k1 => k_is)
    (case a2 => k_is)
    (case l2 => k_is)
    (case c2 => k_is)
    (case k2 => k_is)
    (case a3 => k_is)
    (case l3 => k_is)
    (case c3 => k_is)
    (case k3 => k_is)
    (case a4 => k_is)
    (case l4 => k_is)
    (case c4 => k_is)
    (case k4 => k_is)
    (case a5 => k_is)
    (case l5 => k_is)
    (case c5 => k_is)
    (case k5 => k_is)
    (case a6 => k_is)
    (case l6 => k_is)
    (case c6 => k_is)
    (case k6 => k_is)
    (case a7 => k_is)
    (case l7 => k_is)
    (case c7 => k_is)
    (case k7 => k_is)
    (case a8 => k_is)
    (case l8 => k_is)
    (case c8 => k_is)
    (case k8 => k_is)
    (case a9 => k_is)
    (case l9 => k_is)
    (case c9 => k_is)
    (case k9 => k_is)
    (case a10 => k_is)
    (case l10 => k_is)
    (case c10 => k_is)
    (case k10 => k_is)
    (case a11 => k_is)
    (case l11 => k_is)
    (case c11 => k_is)
    (case k11 => k_is)
    (case a12 => k_is)
    (case l12 => k_is)
    (case c12 => k_is)
    (case k12 => k_is)
    (case a13 => k_is)
    (case l13 => k_is)
    (case c13 => k_is)
    (case k13 => k_is)
    (case a14 => k_is)
    (case l14 => k_is)
    (case c14 => k_is)
    (case k14 => k_is)
    (case a15 => k_is)
    (case l15 => k_is)
    (case c15 => k_is)
    (case k15 => k_is)
    (case a16 => k_is)
    (case l16 => k_is)
    (case c16 => k_is)
    (case k16 => k_is)
    (case a17 => k_is)
    (case l17 => k_is)
    (case c17 => k_is)
    (case k17 => k_is)
    (case b_all => k_is)
    (case b_zip => k_is)
    (case b_abs => k_is)
    (case b_int => k_is)
    (case b_len => k_is)
    (case b_tuple => k_is)
    (case b_range => k_is)
    (case b_list => k_is)
    (case b_repr => k_is)
    (case nl => first | k_is | kernel_rfl | decide +kernel)
#print axioms PySem.Challenge.cw_ledlevels_k82_plans_by_books_holds

