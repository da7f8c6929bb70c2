import PyProof.Rows.All
import Wide.All
import OpenK.AllK
import Wide.FinOn
import HandS.ForMost
import HandS.Walk
import HandS.DictComp
import HandS.AnyAll
import KE.KDictKeyed
import HandS.WideMore
import PyProof.StrBlock2
import HandS.IsInst
import HandS.StrMore
import HandS.SortInts
import PyProof.ReprRoads
import HandS.RaiseMore
import HandS.SetFor
import HandS.Deep
import KE.KDictZip
import HandS.FStr
import HandS.Replace
import HandS.Conv
import HandS.GenList
import PyProof.SumAny
import KE.KNest
import HandS.Style
import HandS.ReplaceLit
import PyProof.ToksMono
import PySem.Challenge.RW_clearfloor_k64_lines_of_events
import PyProof.StrLawsChain
import KE.KIntText
import PyProof.Rows.ReprOcc
import PyProof.Rows.StrIntSpec
set_option Elab.async false
set_option linter.all false
set_option maxRecDepth 100000
set_option maxHeartbeats 0
namespace Q
open PySem L2
inductive D where
 | non | bl (b : Bool) | int (i : Int) | str (s : Str)
 | lst (xs : List D) | tup (xs : List D) | scr (xs : List D)
 | dic (ks : List Key) (xs : List D)
 | obj (c : String) (ks : List Str) (xs : List D)
 | typ (n : String)
 | dcn (ks : List (List Int)) (xs : List D)
 | adr (a : Nat)
def nU (k : List Int) : Int := reduceHash (Builtin.Tuple.tupleHashOf (k.map hashInt))
def qg (k : List Int) (b : Addr) (u : Value) : DictEntry := ⟨nU k, .ref b, u⟩
def fG : List (List Int) → List Addr → List Value → List DictEntry
 | k :: ks, b :: bs, u :: us => qg k b u :: fG ks bs us
 | _, _, _ => []
structure Raw (a : Addr) (es : List DictEntry) (h : Heap) : Prop where
 ob : ∃ o ep, h.get? a = some o ∧ o.ExactDict ∧ o.data = .dict es.toArray ep
 sm : (a == sysModules) = false
 sz : es.length ≤ sizeLine
def p8 : V → Option Int
 | .int i => some i
 | .bl b => some (if b = true then 1 else 0)
 | _ => none
def fJ (K : PySem.W.Frag) (I : Hp) (k : List Int) (b : Addr) : Prop := ∃ vs, SqT K I b vs ∧ vs.map p8 = k.map some
inductive bq (K : PySem.W.Frag) (I : Hp) : List (List Int) → List Addr → Prop
 | nil : bq K I [] []
 | cons {k ks b bs} : fJ K I k b → bq K I ks bs → bq K I (k :: ks) (b :: bs)
theorem hH {K : PySem.W.Frag} {I I' : Hp} {a : Addr} {vs : List V} (s : Same I I') (h : SqT K I a vs) : SqT K I' a vs := by
 rcases h with (h | ⟨o, h⟩) | h
 ·exact .inl (.inl (s _ _ h))
 ·exact .inl (.inr ⟨o, s _ _ h⟩)
 ·exact .inr h
theorem bq.mono {K : PySem.W.Frag} {I I' : Hp} (s : Same I I') : ∀ {ks : List (List Int)} {bs : List Addr}, bq K I ks bs → bq K I' ks bs
 | _, _, .nil => .nil
 | _, _, .cons ⟨vs, h, e⟩ t => .cons ⟨vs, hH s h, e⟩ (bq.mono s t)
theorem bq.length {K : PySem.W.Frag} {I : Hp} : ∀ {ks : List (List Int)} {bs : List Addr}, bq K I ks bs → ks.length = bs.length
 | _, _, .nil => rfl
 | _, _, .cons _ t => by simp [bq.length t]
mutual
inductive Rep (K : PySem.W.Frag) (cl : String → Option Addr) (I : Hp) : D → V → Prop
 | non : Rep K cl I .non .non
 | bl {b} : Rep K cl I (.bl b) (.bl b)
 | int {i} : Rep K cl I (.int i) (.int i)
 | str {s} : Rep K cl I (.str s) (.str s)
 | typ {n} : Rep K cl I (.typ n) (.ty n)
 | adr {a : Addr} : Rep K cl I (.adr a) (.ref a)
 | scr {a xs vs} : SqL K I a vs → aq K cl I xs vs → Rep K cl I (.scr xs) (.ref a)
 | tup {a xs vs} : SqT K I a vs → aq K cl I xs vs → Rep K cl I (.tup xs) (.ref a)
 | obj {d a o} : I a = some o → aE K cl I d o → Rep K cl I d (.ref a)
 | fz {ks xs a od o} : I a = some (.frz od o) → aE K cl I (.dic ks xs) o → Rep K cl I (.dic ks xs) (.ref a)
inductive aq (K : PySem.W.Frag) (cl : String → Option Addr) (I : Hp) : List D → List V → Prop
 | nil : aq K cl I [] []
 | cons {d v ds vs} : Rep K cl I d v → aq K cl I ds vs → aq K cl I (d :: ds) (v :: vs)
inductive aE (K : PySem.W.Frag) (cl : String → Option Addr) (I : Hp) : D → HO → Prop
 | lst {xs vs} : aq K cl I xs vs → aE K cl I (.lst xs) (.lst vs)
 | dic {ks xs vs} : aq K cl I xs vs → ks.length = xs.length → aE K cl I (.dic ks xs) (.dK (ks.zip vs))
 | obj {c C dx ks xs vs} : cl c = some C → aq K cl I xs vs → ks.length = xs.length → aE K cl I (.obj c ks xs) (.ins C dx (ks.zip vs))
 | dcn {a ks xs vs bs us} : bq K I ks bs → aq K cl I xs vs → Vals vs us → ks.length = xs.length → ks.Nodup → aE K cl I (.dcn ks xs) (.ext (Raw a (fG ks bs us)))
end
section
variable {K : PySem.W.Frag} {cl : String → Option Addr} {I I' : Hp}
mutual
theorem Rep.mono (s : Same I I') : ∀ {d : D} {v : V}, Rep K cl I d v → Rep K cl I' d v
 | _, _, .non => .non
 | _, _, .bl => .bl
 | _, _, .int => .int
 | _, _, .str => .str
 | _, _, .typ => .typ
 | _, _, .adr => .adr
 | _, _, .scr h r => .scr (s.seq h) (aq.mono s r)
 | _, _, .tup h r => .tup (by
   rcases h with (h | ⟨o, h⟩) | h
   ·exact .inl (.inl (s _ _ h))
   ·exact .inl (.inr ⟨o, s _ _ h⟩)
   ·exact .inr h) (aq.mono s r)
 | _, _, .obj h r => .obj (s _ _ h) (aE.mono s r)
 | _, _, .fz h r => .fz (s _ _ h) (aE.mono s r)
theorem aq.mono (s : Same I I') : ∀ {ds : List D} {vs : List V}, aq K cl I ds vs → aq K cl I' ds vs
 | _, _, .nil => .nil
 | _, _, .cons r t => .cons (Rep.mono s r) (aq.mono s t)
theorem aE.mono (s : Same I I') : ∀ {d : D} {o : HO}, aE K cl I d o → aE K cl I' d o
 | _, _, .lst r => .lst (aq.mono s r)
 | _, _, .dic r e => .dic (aq.mono s r) e
 | _, _, .obj c r e => .obj c (aq.mono s r) e
 | _, _, .dcn h r v e n => .dcn (h.mono s) (aq.mono s r) v e n
end
theorem aq.length : ∀ {ds : List D} {vs : List V}, aq K cl I ds vs → ds.length = vs.length
 | _, _, .nil => rfl
 | _, _, .cons _ t => by simp [aq.length t]
theorem aq.get : ∀ {ds : List D} {vs : List V} {i : Nat} {d : D}, aq K cl I ds vs → ds[i]? = some d → ∃ v, vs[i]? = some v ∧ Rep K cl I d v
 | _, _, i, _, .nil, e => by simp at e
 | _, _, 0, _, .cons r _, e => by simp at e; subst e; exact ⟨_, rfl, r⟩
 | _, _, i + 1, d, .cons _ t, e => by
  obtain ⟨v, h1, h2⟩ := aq.get (i := i) (d := d) t (by simpa using e)
  exact ⟨v, by simpa using h1, h2⟩
theorem aq.append : ∀ {ds es : List D} {vs us : List V}, aq K cl I ds vs → aq K cl I es us → aq K cl I (ds ++ es) (vs ++ us)
 | _, _, _, _, .nil, s => s
 | _, _, _, _, .cons r t, s => .cons r (aq.append t s)
theorem aq.set : ∀ {ds : List D} {vs : List V} (i : Nat) {d : D} {v : V}, Rep K cl I d v → aq K cl I ds vs → aq K cl I (ds.set i d) (vs.set i v)
 | _, _, i, _, _, _, .nil => by cases i <;> exact .nil
 | _, _, 0, _, _, r, .cons _ t => .cons r t
 | _, _, i + 1, _, _, r, .cons q t => .cons q (aq.set i r t)
theorem Rep.int_inv {i : Int} {v : V} (h : Rep K cl I (.int i) v) : v = .int i := by
 cases h with
 | int => rfl
 | obj _ q => cases q
theorem Rep.bl_inv {i : Bool} {v : V} (h : Rep K cl I (.bl i) v) : v = .bl i := by
 cases h with
 | bl => rfl
 | obj _ q => cases q
theorem Rep.str_inv {i : Str} {v : V} (h : Rep K cl I (.str i) v) : v = .str i := by
 cases h with
 | str => rfl
 | obj _ q => cases q
theorem Rep.non_inv {v : V} (h : Rep K cl I .non v) : v = .non := by
 cases h with
 | non => rfl
 | obj _ q => cases q
theorem Rep.typ_inv {n : String} {v : V} (h : Rep K cl I (.typ n) v) : v = .ty n := by
 cases h with
 | typ => rfl
 | obj _ q => cases q
theorem Rep.lst_inv {xs : List D} {v : V} (h : Rep K cl I (.lst xs) v) : ∃ a vs, v = .ref a ∧ I a = some (.lst vs) ∧ aq K cl I xs vs := by
 cases h with
 | obj h q =>
  cases q with
  | lst r => exact ⟨_, _, rfl, h, r⟩
theorem Rep.scr_inv {xs : List D} {v : V} (h : Rep K cl I (.scr xs) v) : ∃ a vs, v = .ref a ∧ SqL K I a vs ∧ aq K cl I xs vs := by
 cases h with
 | scr h r => exact ⟨_, _, rfl, h, r⟩
 | obj h q => cases q
theorem aE.lst_inv {xs : List D} {o : HO} (h : aE K cl I (.lst xs) o) : ∃ vs, o = .lst vs ∧ aq K cl I xs vs := by
 cases h with
 | lst r => exact ⟨_, rfl, r⟩
theorem aE.dic_inv {ks xs} {o : HO} (h : aE K cl I (.dic ks xs) o) : ∃ vs, o = .dK (ks.zip vs) ∧ aq K cl I xs vs ∧ ks.length = xs.length := by
 cases h with
 | dic r e => exact ⟨_, rfl, r, e⟩
theorem aE.dcn_inv {ks xs} {o : HO} (h : aE K cl I (.dcn ks xs) o) : ∃ a vs bs us, o = .ext (Raw a (fG ks bs us)) ∧ bq K I ks bs ∧ aq K cl I xs vs ∧ Vals vs us ∧ ks.length = xs.length ∧ ks.Nodup := by
 cases h with
 | dcn h r v e n => exact ⟨_, _, _, _, rfl, h, r, v, e, n⟩
theorem Rep.dcn_inv {ks xs} {v : V} (h : Rep K cl I (.dcn ks xs) v) : ∃ p a vs bs us, v = .ref p ∧ I p = some (.ext (Raw a (fG ks bs us))) ∧ bq K I ks bs ∧ aq K cl I xs vs ∧ Vals vs us ∧ ks.length = xs.length ∧ ks.Nodup := by
 cases h with
 | obj h q =>
  obtain ⟨a, vs, bs, us, rfl, r⟩ := q.dcn_inv
  exact ⟨_, _, _, _, _, rfl, h, r⟩
theorem Rep.tup_inv {xs : List D} {v : V} (h : Rep K cl I (.tup xs) v) : ∃ a vs, v = .ref a ∧ SqT K I a vs ∧ aq K cl I xs vs := by
 cases h with
 | tup h r => exact ⟨_, _, rfl, h, r⟩
 | obj h q => cases q
theorem Rep.dic_inv {ks xs} {v : V} (h : Rep K cl I (.dic ks xs) v) : ∃ a vs, v = .ref a ∧ Rd I a (.dK (ks.zip vs)) ∧ aq K cl I xs vs ∧ ks.length = xs.length := by
 cases h with
 | obj h q =>
  cases q with
  | dic r e => exact ⟨_, _, rfl, .inl h, r, e⟩
 | fz h q =>
  cases q with
  | dic r e => exact ⟨_, _, rfl, .inr ⟨_, h⟩, r, e⟩
end
def eY (x : String) : String := x ++ "#"
def bp (cl : String → Option Addr) (a : Addr) : Prop := ∃ x, cl (eY x) = some a
inductive Sl where
 | un | imm (d : D) | bor (d : D) | own (d : D) | lck (d : D) | io (k : Nat) (d : D)
abbrev En := List Sl
structure G where
 I0 : Hp
 H0 : Hp
 O : List Addr
 X : List (Addr × HO) := []
def Top (K : PySem.W.Frag) (cl : String → Option Addr) (I H : Hp) (d : D) (a : Addr) : Prop := ∃ o, H a = some o ∧ aE K cl I d o
def eX (K : PySem.W.Frag) (cl : String → Option Addr) (g : G) (I H : Hp) : Sl → Option V → Prop
 | .un, _ => True
 | .imm d, x => ∃ v, x = some v ∧ Rep K cl I d v
 | .bor d, x => ∃ a, x = some (.ref a) ∧ Top K cl I H d a
 | .own d, x => ∃ a o, x = some (.ref a) ∧ H a = some o ∧ aE K cl I d o ∧ I a = none ∧ g.H0 a = none
 | .lck d, x => ∃ a o, x = some (.ref a) ∧ H a = some o ∧ aE K cl I d o ∧ I a = none ∧ g.H0 a = none
 | .io k d, x => ∃ a o, x = some (.ref a) ∧ g.O[k]? = some a ∧ H a = some o ∧ aE K cl I d o
def Sl.mut : Sl → Bool
 | .own _ => true
 | .lck _ => true
 | .io _ _ => true
 | _ => false
def Sl.top : Sl → Bool
 | .own _ => true
 | .lck _ => true
 | .io _ _ => true
 | .bor _ => true
 | _ => false
structure SR (K : PySem.W.Frag) (cl : String → Option Addr) (g : G) (env : En) (σ : St) (I H : Hp) : Prop where
 sub : Same I H
 i0 : Same g.I0 I
 h0 : ∀ a o, g.H0 a = some o → a ∉ g.O → ¬ bp cl a → H a = some o
 hi : ∀ a o, g.H0 a = some o → g.I0 a = none → I a = none
 oh : ∀ a ∈ g.O, (∃ o, H a = some o) ∧ I a = none ∧ ∃ o, g.H0 a = some o
 len : env.length = σ.length
 at_ : ∀ (i : Nat) (s : Sl), env[i]? = some s → ∃ x : Option V, σ[i]? = some x ∧ eX K cl g I H s x
 dis : ∀ (i j : Nat) (s s' : Sl) (a : Addr), i ≠ j → env[i]? = some s → env[j]? = some s' → s.mut = true → s'.top = true → σ[i]? = some (some (.ref a)) → σ[j]? = some (some (.ref a)) → False
 ex : ∀ (a : Addr) (o : HO), (a, o) ∈ g.X → H a = some o ∧ I a = none ∧ ∀ (i : Nat) (s : Sl), env[i]? = some s → s.top = true → σ[i]? ≠ some (some (.ref a))
 ex0 : ∀ (a : Addr) (o : HO), (a, o) ∈ g.X → g.H0 a = none
 tb : ∀ a, bp cl a → I a = none ∧ GxR.TabG H a ∧ ∃ o, g.H0 a = some o
section
variable {K : PySem.W.Frag} {cl : String → Option Addr} {g : G} {env : En} {σ : St} {I I' H H' : Hp}
structure New (g : G) (env : En) (σ : St) (I H : Hp) (p : Addr) (o : HO) : Prop where
 at_ : H p = some o
 i : I p = none
 h0 : g.H0 p = none
 no : ∀ (i : Nat) (s : Sl), env[i]? = some s → s.top = true → σ[i]? ≠ some (some (.ref p))
 x : ∀ o', (p, o') ∉ g.X
theorem SR.fresh0 (R : SR K cl g env σ I H) {p : Addr} (hp : H p = none) : g.H0 p = none := by
 cases e : g.H0 p with
 | none => rfl
 | some o =>
  by_cases hO : p ∈ g.O
  ·obtain ⟨⟨o', h⟩, _⟩ := R.oh p hO
   rw [hp] at h; cases h
  ·by_cases ht : bp cl p
   ·obtain ⟨_, ⟨ps, h, _⟩, _⟩ := R.tb p ht
    rw [hp] at h; cases h
   ·rw [R.h0 p o e hO ht] at hp; cases hp
theorem aE.notTab {d : D} {o : HO} (r : aE K cl I d o) {ps : Array Value} (h : o = .tbl ps) : False := by
 subst h; cases r
theorem SR.noTab (R : SR K cl g env σ I H) {a : Addr} {d : D} {o : HO} (h : H a = some o) (r : aE K cl I' d o) : ¬ bp cl a := fun t => by
 obtain ⟨_, ⟨ps, h1, _⟩, _⟩ := R.tb a t
 rw [h] at h1
 exact r.notTab (Option.some.inj h1)
theorem Top.mono {d : D} {a : Addr} (t : Top K cl I H d a) (s : Same I I') (s' : ∀ o, H a = some o → H' a = some o) : Top K cl I' H' d a := by
 obtain ⟨o, h, r⟩ := t
 exact ⟨o, s' _ h, r.mono s⟩
theorem Top.there {d : D} {a : Addr} (t : Top K cl I H d a) : ∃ o, H a = some o := let ⟨o, h, _⟩ := t; ⟨o, h⟩
theorem SR.grow (R : SR K cl g env σ I H) (s : Same H H') : SR K cl g env σ I H' where
 sub := R.sub.trans s
 i0 := R.i0
 h0 := fun a o h n t => s _ _ (R.h0 a o h n t)
 hi := R.hi
 oh := fun a h => let ⟨⟨o, h1⟩, h2⟩ := R.oh a h; ⟨⟨o, s _ _ h1⟩, h2⟩
 len := R.len
 at_ := fun i sl h => by
  obtain ⟨x, hx, q⟩ := R.at_ i sl h
  refine ⟨x, hx, ?_⟩
  cases sl with
  | un => trivial
  | imm d => exact q
  | bor d => obtain ⟨a, e, t⟩ := q; exact ⟨a, e, t.mono (Same.refl _) fun o => s _ o⟩
  | own d => obtain ⟨a, o, e, h1, h2⟩ := q; exact ⟨a, o, e, s _ _ h1, h2⟩
  | lck d => obtain ⟨a, o, e, h1, h2⟩ := q; exact ⟨a, o, e, s _ _ h1, h2⟩
  | io k d => obtain ⟨a, o, e, h0, h1, h2⟩ := q; exact ⟨a, o, e, h0, s _ _ h1, h2⟩
 dis := R.dis
 ex := fun a o h => let ⟨h1, h2, h3⟩ := R.ex a o h; ⟨s _ _ h1, h2, h3⟩
 ex0 := R.ex0
 tb := fun a h => let ⟨h1, ⟨ps, h2, h3⟩, h4⟩ := R.tb a h; ⟨h1, ⟨ps, s _ _ h2, h3⟩, h4⟩
theorem Same.new {H : Hp} {p : Addr} {o : HO} (h : H p = none) : Same H (upd H p o) := fun a u e => by
 rw [upd_ne (ne_of_none e h)]; exact e
theorem SR.alloc (R : SR K cl g env σ I H) {p : Addr} (hp : H p = none) (o : HO) : SR K cl g env σ I (upd H p o) := R.grow (Same.new hp)
theorem SR.slot_ne (R : SR K cl g env σ I H) {p : Addr} (hp : H p = none) : ∀ (i : Nat) (s : Sl), env[i]? = some s → s.top = true → σ[i]? ≠ some (some (.ref p)) := fun i s h ht e => by
 obtain ⟨x, hx, q⟩ := R.at_ i s h
 rw [hx] at e
 cases e
 cases s with
 | un => cases ht
 | imm d => cases ht
 | bor d => obtain ⟨a, e, t⟩ := q; cases e; obtain ⟨o, h1⟩ := t.there; rw [hp] at h1; cases h1
 | own d => obtain ⟨a, o, e, h1, _⟩ := q; cases e; rw [hp] at h1; cases h1
 | lck d => obtain ⟨a, o, e, h1, _⟩ := q; cases e; rw [hp] at h1; cases h1
 | io k d => obtain ⟨a, o, e, _, h1, _⟩ := q; cases e; rw [hp] at h1; cases h1
theorem SR.new (R : SR K cl g env σ I H) {p : Addr} {o : HO} (hp : H p = none) : New g env σ I (upd H p o) p o := by
 refine ⟨upd_same, ?_, R.fresh0 hp, R.slot_ne hp, fun o' hx => by have := (R.ex p o' hx).1; rw [hp] at this; cases this⟩
 cases e : I p with
 | none => rfl
 | some u =>
  have q := R.sub p u e
  rw [q] at hp; cases hp
end
end Q
namespace Q
open PySem L2
section
variable {K : PySem.W.Frag} {cl : String → Option Addr} {g : G} {env : En} {σ : St} {I I' H H' : Hp}
theorem bg {α : Type} {l : List α} {i j : Nat} {x y : α} (h : (l.set i x)[j]? = some y) : (j = i ∧ i < l.length ∧ y = x) ∨ (j ≠ i ∧ l[j]? = some y) := by
 by_cases e : j = i
 ·subst e
  obtain ⟨h1, h2⟩ := List.getElem?_eq_some_iff.mp h
  rw [List.length_set] at h1
  rw [List.getElem_set_self] at h2
  exact .inl ⟨rfl, h1, h2.symm⟩
 ·rw [List.getElem?_set_ne (Ne.symm e)] at h
  exact .inr ⟨e, h⟩
theorem SR.reslot (R : SR K cl g env σ I H) {i : Nat} {s s' : Sl} (hs : env[i]? = some s) (h : ∀ x, σ[i]? = some x → eX K cl g I H s x → eX K cl g I H s' x) (hm : s'.mut = true → s.mut = true) (ht : s'.top = true → s.top = true) :
  SR K cl g (env.set i s') σ I H where
 sub := R.sub
 i0 := R.i0
 h0 := R.h0
 hi := R.hi
 oh := R.oh
 len := by rw [List.length_set]; exact R.len
 at_ := fun j u e => by
  rcases bg e with ⟨rfl, _, rfl⟩ | ⟨_, e⟩
  ·obtain ⟨x, hx, q⟩ := R.at_ _ _ hs
   exact ⟨x, hx, h x hx q⟩
  ·exact R.at_ j u e
 dis := fun j k u u' a hne e1 e2 h1 h2 => by
  rcases bg e1 with ⟨rfl, _, rfl⟩ | ⟨n1, f1⟩
  ·rcases bg e2 with ⟨e, _, _⟩ | ⟨n2, e2⟩
   ·exact absurd e.symm hne
   ·exact R.dis _ k s u' a hne hs e2 (hm h1) h2
  ·rcases bg e2 with ⟨rfl, _, rfl⟩ | ⟨n2, f2⟩
   ·exact R.dis j _ u s a hne f1 hs h1 (ht h2)
   ·exact R.dis j k u u' a hne f1 f2 h1 h2
 ex := fun a o hx => by
  obtain ⟨h1, h2, h3⟩ := R.ex a o hx
  refine ⟨h1, h2, fun j u e hu => ?_⟩
  rcases bg e with ⟨rfl, _, rfl⟩ | ⟨_, e⟩
  ·exact h3 _ s hs (ht hu)
  ·exact h3 j u e hu
 ex0 := R.ex0
 tb := R.tb
theorem SR.store (R : SR K cl g env σ I H) {i : Nat} {s' : Sl} {x : Option V} (h : i < σ.length) (hs : eX K cl g I H s' x)
  (hd : ∀ (a : Addr), x = some (.ref a) → s'.top = true → (∀ o, (a, o) ∉ g.X) ∧ ∀ (j : Nat) (s : Sl), j ≠ i → env[j]? = some s → s.top = true → σ[j]? ≠ some (some (.ref a))) :
  SR K cl g (env.set i s') (σ.set i x) I H where
 sub := R.sub
 i0 := R.i0
 h0 := R.h0
 hi := R.hi
 oh := R.oh
 len := by rw [List.length_set, List.length_set]; exact R.len
 at_ := fun j u e => by
  rcases bg e with ⟨rfl, _, rfl⟩ | ⟨n, e⟩
  ·exact ⟨x, List.getElem?_set_self h, hs⟩
  ·rw [List.getElem?_set_ne (Ne.symm n)]
   exact R.at_ j u e
 dis := fun j k u u' a hne e1 e2 h1 h2 q1 q2 => by
  have tm : ∀ s : Sl, s.mut = true → s.top = true := fun s h => by cases s <;> first | rfl | cases h
  rcases bg e1 with ⟨rfl, _, rfl⟩ | ⟨n1, f1⟩
  ·rw [List.getElem?_set_self h] at q1
   rcases bg e2 with ⟨e, _, _⟩ | ⟨n2, f2⟩
   ·exact absurd e.symm hne
   ·rw [List.getElem?_set_ne (Ne.symm n2)] at q2
    exact (hd a (Option.some.inj q1) (tm _ h1)).2 k u' n2 f2 h2 q2
  ·rw [List.getElem?_set_ne (Ne.symm n1)] at q1
   rcases bg e2 with ⟨rfl, _, rfl⟩ | ⟨n2, f2⟩
   ·rw [List.getElem?_set_self h] at q2
    exact (hd a (Option.some.inj q2) h2).2 j u n1 f1 (tm _ h1) q1
   ·rw [List.getElem?_set_ne (Ne.symm n2)] at q2
    exact R.dis j k u u' a hne f1 f2 h1 h2 q1 q2
 ex := fun a o hx => by
  obtain ⟨h1, h2, h3⟩ := R.ex a o hx
  refine ⟨h1, h2, fun j u e hu => ?_⟩
  rcases bg e with ⟨rfl, _, rfl⟩ | ⟨n, e⟩
  ·rw [List.getElem?_set_self h]
   intro z
   exact (hd a (Option.some.inj z) hu).1 o hx
  ·rw [List.getElem?_set_ne (Ne.symm n)]
   exact h3 j u e hu
 ex0 := R.ex0
 tb := R.tb
theorem SR.setImm (R : SR K cl g env σ I H) {i : Nat} {d : D} {v : V} (h : i < σ.length) (r : Rep K cl I d v) : SR K cl g (env.set i (.imm d)) (σ.set i (some v)) I H :=
 R.store h ⟨v, rfl, r⟩ fun _ _ ht => by cases ht
theorem SR.setUn (R : SR K cl g env σ I H) {i : Nat} {x : Option V} (h : i < σ.length) : SR K cl g (env.set i .un) (σ.set i x) I H :=
 R.store h trivial fun _ _ ht => by cases ht
theorem SR.setOwn (R : SR K cl g env σ I H) {i : Nat} {d : D} {p : Addr} {o : HO} (h : i < σ.length) (n : New g env σ I H p o) (r : aE K cl I d o) : SR K cl g (env.set i (.own d)) (σ.set i (some (.ref p))) I H :=
 R.store h ⟨p, o, rfl, n.at_, r, n.i, n.h0⟩ fun a e _ => by
  cases e
  exact ⟨n.x, fun j s _ hj ht => n.no j s hj ht⟩
theorem SR.freeze (R : SR K cl g env σ I H) {p : Addr} {o : HO} (n : New g env σ I H p o) : SR K cl g env σ (upd I p o) H ∧ Same I (upd I p o) := by
 have s : Same I (upd I p o) := Same.new n.i
 have np : ∀ (i : Nat) (sl : Sl) (a : Addr), env[i]? = some sl → sl.top = true → σ[i]? = some (some (.ref a)) → a ≠ p := fun i sl a h1 h2 h3 e => by
  subst e
  exact n.no i sl h1 h2 h3
 refine ⟨⟨fun a u e => ?_, R.i0.trans s, R.h0, fun a u e1 e2 => ?_, fun a ha => ?_, R.len, fun i sl h => ?_, R.dis, fun a u hx => ?_, R.ex0, fun a ht => ?_⟩, s⟩
 rotate_right
 ·obtain ⟨h1, h2, u, h3⟩ := R.tb a ht
  have h : a ≠ p := fun z => by subst z; rw [n.h0] at h3; cases h3
  rw [upd_ne h]; exact ⟨h1, h2, u, h3⟩
 rotate_right
 ·obtain ⟨h1, h2, h3⟩ := R.ex a u hx
  refine ⟨h1, ?_, h3⟩
  rw [upd_ne (fun z => by subst z; exact n.x u hx)]
  exact h2
 ·by_cases h : a = p
  ·subst h; rw [upd_same] at e; cases e; exact n.at_
  ·rw [upd_ne h] at e; exact R.sub a u e
 ·have h : a ≠ p := fun z => by subst z; rw [n.h0] at e1; cases e1
  rw [upd_ne h]; exact R.hi a u e1 e2
 ·obtain ⟨h1, h2, u, h3⟩ := R.oh a ha
  have h : a ≠ p := fun z => by subst z; rw [n.h0] at h3; cases h3
  rw [upd_ne h]; exact ⟨h1, h2, u, h3⟩
 ·obtain ⟨x, hx, q⟩ := R.at_ i sl h
  refine ⟨x, hx, ?_⟩
  cases sl with
  | un => trivial
  | imm d => obtain ⟨v, e, r⟩ := q; exact ⟨v, e, r.mono s⟩
  | bor d => obtain ⟨a, e, t⟩ := q; exact ⟨a, e, t.mono s fun _ h => h⟩
  | own d =>
   obtain ⟨a, u, e, h1, h2, h3, h4⟩ := q
   subst e
   exact ⟨a, u, rfl, h1, h2.mono s, by rw [upd_ne (np i _ a h rfl hx)]; exact h3, h4⟩
  | lck d =>
   obtain ⟨a, u, e, h1, h2, h3, h4⟩ := q
   subst e
   exact ⟨a, u, rfl, h1, h2.mono s, by rw [upd_ne (np i _ a h rfl hx)]; exact h3, h4⟩
  | io k d => obtain ⟨a, u, e, h0, h1, h2⟩ := q; exact ⟨a, u, e, h0, h1, h2.mono s⟩
theorem SR.frz (R : SR K cl g env σ I H) {i : Nat} {d : D} (hs : env[i]? = some (.own d)) : ∃ a o, σ[i]? = some (some (.ref a)) ∧ SR K cl g (env.set i (.imm d)) σ (upd I a o) H ∧ Same I (upd I a o) ∧ Rep K cl (upd I a o) d (.ref a) := by
 obtain ⟨x, hx, a, o, rfl, h1, h2, h3, h4⟩ := R.at_ i _ hs
 have R1 : SR K cl g (env.set i .un) σ I H := R.reslot (s' := .un) hs (fun _ _ _ => trivial) (fun z => by cases z) (fun z => by cases z)
 have hil : i < env.length := (List.getElem?_eq_some_iff.mp hs).1
 have n : New g (env.set i .un) σ I H a o := ⟨h1, h3, h4, fun j s hj ht => by
  rcases bg hj with ⟨rfl, _, rfl⟩ | ⟨ne, hj⟩
  ·cases ht
  ·exact fun z => R.dis i j _ s a (Ne.symm ne) hs hj rfl ht hx z, fun o' hX => (R.ex a o' hX).2.2 i _ hs rfl hx⟩
 obtain ⟨R2, s2⟩ := R1.freeze n
 have r : Rep K cl (upd I a o) d (.ref a) := .obj upd_same (h2.mono s2)
 refine ⟨a, o, hx, ?_, s2, r⟩
 have R3 := R2.reslot (i := i) (s := .un) (s' := .imm d) (List.getElem?_set_self hil) (fun y hy _ => ⟨.ref a, by rw [hx] at hy; exact (Option.some.inj hy).symm, r⟩) (fun z => by cases z) (fun z => by cases z)
 rw [List.set_set] at R3
 exact R3
def Sl.put : Sl → D → Sl
 | .own _, d => .own d
 | .io k _, d => .io k d
 | s, _ => s
def Sl.own? : Sl → Option D
 | .own d => some d
 | .io _ d => some d
 | _ => none
theorem dE (R : SR K cl g env σ I H) {i : Nat} {s : Sl} {d : D} (hs : env[i]? = some s) (ho : s.own? = some d) :
  ∃ a o, σ[i]? = some (some (.ref a)) ∧ H a = some o ∧ aE K cl I d o ∧ I a = none := by
 obtain ⟨x, hx, q⟩ := R.at_ i s hs
 cases s with
 | own d' =>
  cases ho
  obtain ⟨a, u, rfl, h1, h2, h3, h4⟩ := q
  exact ⟨a, u, hx, h1, h2, h3⟩
 | io k d' =>
  cases ho
  obtain ⟨a, u, rfl, h0, h1, h2⟩ := q
  exact ⟨a, u, hx, h1, h2, (R.oh a (List.mem_of_getElem? h0)).2.1⟩
 | un => cases ho
 | imm => cases ho
 | bor => cases ho
 | lck => cases ho
theorem SR.mutate (R : SR K cl g env σ I H) {i : Nat} {s : Sl} {d d' : D} {a : Addr} {o' : HO} (hs : env[i]? = some s) (ho : s.own? = some d) (ha : σ[i]? = some (some (.ref a))) (r : aE K cl I d' o') :
  SR K cl g (env.set i (s.put d')) σ I (upd H a o') := by
 obtain ⟨a', o, ha', h1, h2, h3⟩ := dE R hs ho
 rw [ha] at ha'
 cases ha'
 have sm : s.mut = true ∧ s.top = true := by cases s <;> first | exact ⟨rfl, rfl⟩ | cases ho
 have pm : (s.put d').mut = true ∧ (s.put d').top = true := by cases s <;> first | exact ⟨rfl, rfl⟩ | cases ho
 have ne : ∀ (j : Nat) (u : Sl) (b : Addr), j ≠ i → env[j]? = some u → u.top = true → σ[j]? = some (some (.ref b)) → b ≠ a := fun j u b hj k1 k2 k3 e => by
  rw [e] at k3
  exact R.dis i j s u a (Ne.symm hj) hs k1 sm.1 k2 ha k3
 have nt : ¬ bp cl a := R.noTab h1 h2
 have h00 : ∀ b u, g.H0 b = some u → b ∉ g.O → b ≠ a := fun b u e1 e2 z => by
  subst z
  obtain ⟨x, hx, q⟩ := R.at_ i s hs
  cases s with
  | own d' => obtain ⟨a, v, rfl, _, _, _, h4⟩ := q; rw [ha] at hx; cases hx; rw [h4] at e1; cases e1
  | io k d' => obtain ⟨a, v, rfl, h0, _⟩ := q; rw [ha] at hx; cases hx; exact e2 (List.mem_of_getElem? h0)
  | un => cases ho
  | imm => cases ho
  | bor => cases ho
  | lck => cases ho
 refine ⟨fun b u e => ?_, R.i0, fun b u e1 e2 e3 => ?_, R.hi, fun b hb => ?_, by rw [List.length_set]; exact R.len, fun j u e => ?_, fun j k u u' b hne e1 e2 m1 m2 => ?_, fun b u hx => ?_, R.ex0, fun b ht => ?_⟩
 rotate_right
 ·obtain ⟨t1, ⟨ps, t2, t3⟩, t4⟩ := R.tb b ht
  have hb : b ≠ a := fun z => nt (z ▸ ht)
  exact ⟨t1, ⟨ps, by rw [upd_ne hb]; exact t2, t3⟩, t4⟩
 rotate_right
 ·obtain ⟨h1, h2, h3⟩ := R.ex b u hx
  have hb : b ≠ a := fun z => by rw [z] at h3; exact h3 i s hs sm.2 ha
  refine ⟨by rw [upd_ne hb]; exact h1, h2, fun j v e hv => ?_⟩
  rcases bg e with ⟨rfl, _, rfl⟩ | ⟨n, e⟩
  ·exact h3 _ s hs sm.2
  ·exact h3 j v e hv
 ·rw [upd_ne (fun z => by subst z; rw [h3] at e; cases e)]; exact R.sub b u e
 ·rw [upd_ne (h00 b u e1 e2)]; exact R.h0 b u e1 e2 e3
 ·obtain ⟨⟨u, q1⟩, q2⟩ := R.oh b hb
  by_cases z : b = a
  ·subst z; exact ⟨⟨o', upd_same⟩, q2⟩
  ·rw [upd_ne z]; exact ⟨⟨u, q1⟩, q2⟩
 ·rcases bg e with ⟨rfl, _, rfl⟩ | ⟨n, e⟩
  ·obtain ⟨x, hx, q⟩ := R.at_ j s hs
   refine ⟨x, hx, ?_⟩
   cases s with
   | own d' => obtain ⟨b, v, hb, _, _, q3, q4⟩ := q; subst hb; rw [ha] at hx; cases hx; exact ⟨_, o', rfl, upd_same, r, q3, q4⟩
   | io k d' => obtain ⟨b, v, hb, q0, _⟩ := q; subst hb; rw [ha] at hx; cases hx; exact ⟨_, o', rfl, q0, upd_same, r⟩
   | un => cases ho
   | imm => cases ho
   | bor => cases ho
   | lck => cases ho
  ·obtain ⟨x, hx, q⟩ := R.at_ j u e
   refine ⟨x, hx, ?_⟩
   cases u with
   | un => trivial
   | imm d => exact q
   | bor d =>
    obtain ⟨b, rfl, t⟩ := q
    exact ⟨b, rfl, t.mono (Same.refl _) fun v hv => by rw [upd_ne (ne j _ b n e rfl hx)]; exact hv⟩
   | own d => obtain ⟨b, v, rfl, q1, q2⟩ := q; exact ⟨b, v, rfl, by rw [upd_ne (ne j _ b n e rfl hx)]; exact q1, q2⟩
   | lck d => obtain ⟨b, v, rfl, q1, q2⟩ := q; exact ⟨b, v, rfl, by rw [upd_ne (ne j _ b n e rfl hx)]; exact q1, q2⟩
   | io k d => obtain ⟨b, v, rfl, q0, q1, q2⟩ := q; exact ⟨b, v, rfl, q0, by rw [upd_ne (ne j _ b n e rfl hx)]; exact q1, q2⟩
 ·rcases bg e1 with ⟨rfl, _, rfl⟩ | ⟨n1, f1⟩
  ·rcases bg e2 with ⟨e, _, _⟩ | ⟨n2, f2⟩
   ·exact absurd e.symm hne
   ·exact R.dis _ k s u' b hne hs f2 sm.1 m2
  ·rcases bg e2 with ⟨rfl, _, rfl⟩ | ⟨n2, f2⟩
   ·exact R.dis j _ u s b hne f1 hs m1 sm.2
   ·exact R.dis j k u u' b hne f1 f2 m1 m2
end
structure Zc where
 P : Program
 w : World
 K : PySem.W.Frag
 mg : Str → Option Value
 base : Heap
 N : List Str
 sc : Scope
 k : Nat
 cl : String → Option Addr
 all : Bool
 me : Option (Addr × Addr)
structure InF (Z : Zc) (X : Cx) : Prop where
 prog : X.prog = Z.P
 w : X.w = Z.w
 K : X.K = Z.K
 mg : X.mg = Z.mg
 base : X.base = Z.base
 N : X.N = Z.N
 sc : X.env.scope = Z.sc
 calm : X.calm = true
 room : Room Z.k X.A
 nd : X.N.Nodup
 fn : Z.all = true → ∀ x, X.fn x = true
 own : PassesOwn (model X.prog X.w) X.A X.env X.xe
 gd : X.A.guards = some []
 cd : ∀ c P, Z.me = some (c, P) → X.env.code = .ref c ∧ GxR.TabB X.base X.mg c P ∧ bp Z.cl P
abbrev ME := En → Option (D × En)
abbrev MT := En → Option (Bool × En)
def SE (Z : Zc) (t : TE) (m : ME) : Prop := ∀ (g : G) (env : En) (σ : St) (I H : Hp) (Q : VK) (d : D) (env' : En), SR Z.K Z.cl g env σ I H → m env = some (d, env') →
 (∀ v I' H', SR Z.K Z.cl g env' σ I' H' → Same I I' → Rep Z.K Z.cl I' d v → Q v H') → t σ H Q
def SF (Z : Zc) (t : TE) (m : ME) : Prop := ∀ (g : G) (env : En) (σ : St) (I H : Hp) (Q : VK) (d : D) (env' : En), SR Z.K Z.cl g env σ I H → m env = some (d, env') →
 (∀ p o I' H', SR Z.K Z.cl g env' σ I' H' → Same I I' → New g env' σ I' H' p o → aE Z.K Z.cl I' d o → Q (.ref p) H') → t σ H Q
def ST (Z : Zc) (t : TT) (m : MT) : Prop := ∀ (g : G) (env : En) (σ : St) (I H : Hp) (Q : Bool → Hp → Prop) (b : Bool) (env' : En), SR Z.K Z.cl g env σ I H → m env = some (b, env') →
 (∀ I' H', SR Z.K Z.cl g env' σ I' H' → Same I I' → Q b H') → t σ H Q
def EV (Z : Zc) (e : Expr) (m : ME) : Prop := ∃ t, (∀ X, InF Z X → PE X e t) ∧ SE Z t m
def EF (Z : Zc) (e : Expr) (m : ME) : Prop := ∃ t, (∀ X, InF Z X → PE X e t) ∧ SF Z t m
def TV (Z : Zc) (e : Expr) (m : MT) : Prop := ∃ t, (∀ X, InF Z X → PT X e t) ∧ ST Z t m
theorem SF.se {Z : Zc} {t : TE} {m : ME} (h : SF Z t m) : SE Z t m := fun g env σ I H Q d env' R hm k =>
 h g env σ I H Q d env' R hm fun p o I' H' R' s n r => by
  obtain ⟨R2, s2⟩ := R'.freeze n
  exact k _ _ _ R2 (s.trans s2) (.obj upd_same (r.mono s2))
theorem EF.ev {Z : Zc} {e : Expr} {m : ME} (h : EF Z e m) : EV Z e m := let ⟨t, h1, h2⟩ := h; ⟨t, h1, h2.se⟩
inductive Md where | imm | new
inductive Fl where
 | nx (env : En) | bk (env : En) | ct (env : En) | ret (md : Md) (d : D) (env : En)
abbrev MS := En → Option Fl
def kq (Z : Zc) (g : G) (env : En) (σ : St) (I H : Hp) : Md → D → V → Prop
 | .imm, d, v => Rep Z.K Z.cl I d v
 | .new, d, v => ∃ p o, v = .ref p ∧ New g env σ I H p o ∧ aE Z.K Z.cl I d o
def i6 (Z : Zc) (g : G) (I : Hp) (D : Ends) : Fl → Prop
 | .nx env => ∀ σ' I' H', SR Z.K Z.cl g env σ' I' H' → Same I I' → D.nx σ' H'
 | .bk env => ∀ σ' I' H', SR Z.K Z.cl g env σ' I' H' → Same I I' → D.bk σ' H'
 | .ct env => ∀ σ' I' H', SR Z.K Z.cl g env σ' I' H' → Same I I' → D.ct σ' H'
 | .ret md d env => ∀ σ' I' H' v, SR Z.K Z.cl g env σ' I' H' → Same I I' → kq Z g env σ' I' H' md d v → D.rt v H'
def SS (Z : Zc) (t : TS) (m : MS) : Prop := ∀ (g : G) (env : En) (σ : St) (I H : Hp) (D : Ends) (fl : Fl), SR Z.K Z.cl g env σ I H → m env = some fl → i6 Z g I D fl → t D σ H
def SV (Z : Zc) (st : Stmt) (m : MS) : Prop := ∃ t, (∀ X, InF Z X → PS X st t) ∧ SS Z t m
def BV (Z : Zc) (sts : List Stmt) (m : MS) : Prop := ∃ t, (∀ X, InF Z X → PSs X sts t) ∧ SS Z t m
theorem i6.mono {Z : Zc} {g : G} {I I' : Hp} {D : Ends} {fl : Fl} (s : Same I I') (h : i6 Z g I D fl) : i6 Z g I' D fl := by
 cases fl with
 | nx env => exact fun σ' J H' R e => h σ' J H' R (s.trans e)
 | bk env => exact fun σ' J H' R e => h σ' J H' R (s.trans e)
 | ct env => exact fun σ' J H' R e => h σ' J H' R (s.trans e)
 | ret md d env => exact fun σ' J H' v R e => h σ' J H' v R (s.trans e)
end Q
namespace Q
open PySem PySem.Spec PyProof.Rows L2
abbrev bD (A : Around) : Prop := A.guards = some []
structure FnG (P : Program) (w : World) (K : PySem.W.Frag) (mg : Str → Option Value) (base : Heap) (CX : CXT) (k : Nat) (f : Addr) (fd : FuncData) (ps : List Str) (sp : Sp) : Prop where
 ar : ∀ {vs H Q E}, sp vs H Q E → vs.length = ps.length
 go : ∀ {A : Around} {outer : List Env} {s : Shared} {H : Hp} {args : Args} {us : List Value} {vs : List V} {Q : VK} {E : XK}, Room k A → bD A →
  Env0 P w K mg base A outer s H → BindsTo s fd args (ps.zip us) → Vals vs us → sp vs H Q E → codeAny (model P w) A (.call (.ref f) args) (CR CX outer P w H s Q E) s
section
variable {P : Program} {w : World} {K : PySem.W.Frag} {mg : Str → Option Value} {base : Heap} {CX : CXT} {j k : Nat} {f : Addr} {fd : FuncData} {ps : List Str} {sp sp' : Sp}
theorem FnG.mono (F : FnG P w K mg base CX j f fd ps sp) (h : j ≤ k) : FnG P w K mg base CX k f fd ps sp := ⟨F.ar, fun hr => F.go (hr.mono h)⟩
theorem FnG.imp (F : FnG P w K mg base CX k f fd ps sp) (h : ∀ vs H Q E, sp' vs H Q E → sp vs H Q E) : FnG P w K mg base CX k f fd ps sp' :=
 ⟨fun q => F.ar (h _ _ _ _ q), fun a1 a2 a3 a4 a5 a6 => F.go a1 a2 a3 a4 a5 (h _ _ _ _ a6)⟩
end
section
variable {X : Cx} {CX : CXT} {k : Nat} {f C : Addr} {fd : FuncData} {ps : List Str} {sp : Sp} {E : XK} {x m : Str} {p pos apos : Pos} {e o : Expr} {es : List Expr} {ta : TE} {t : TA}
 {pins : List (Addr × Obj)} {σ : L2.St} {H : Hp} {s : Shared} {Q : VK} {us : List Value} {vs : List V}
theorem binds0 (hb : Binds X.K fd ps []) (I : Inv X pins σ H s) (h : us.length = ps.length) : BindsTo s fd ⟨us, []⟩ (ps.zip us) := by
 have := hb s us I.kIn (by rw [List.append_nil]; exact h)
 rwa [List.append_nil] at this
theorem FnG.runs (F : FnG X.prog X.w X.K X.mg X.base CX k f fd ps sp) (hr : Room k X.A) (g : bD X.A) (hb : Binds X.K fd ps []) (hx : Passes CX X E) (I : Inv X pins σ H s) (r : Vals vs us)
  (h : sp vs H Q E) : wpAny (model X.prog X.w) X.A (call (.ref f) us) (EP X pins σ Q) X.xe s :=
 wpAny_call (codeAny_mono (F.go hr g I.env0 (binds0 hb I (r.length.symm.trans (F.ar h))) r h) fun a b q => match a, q with
  | .error e, q => hx pins σ H s e b I q
  | .ok (.ret u), q => I.after q
  | .ok .next, q => q.elim
  | .ok .brk, q => q.elim
  | .ok .cont, q => q.elim)
theorem FnG.pe (F : FnG X.prog X.w X.K X.mg X.base CX k f fd ps sp) (hr : Room k X.A) (g : bD X.A) (hg : Gl X x) (hm : X.mg x = some (.ref f)) (hk : PySem.W.keepIn X.K (.ref f) = true) (hb : Binds X.K fd ps [])
  (hx : Passes CX X E) (ha : PA X (e :: es) t) (hdb : (x == ("__debug__" : Str)) = false) (he : starEach (e :: es) X.env = (false, eval e X.env) :: starEach es X.env)
  (hpl : (backTo pos (starEach es X.env)).any (·.1) = false) : PE X (.Call (.Name x p) (e :: es) [] pos) (tCall sp [] E t) :=
 ⟨fun pins s σ H Q I h => wpAny_Call_Name_kw (ld_glob I hg hm (PySem.W.callWith_K (h₀ := X.base) I.ok.mod.kin hk (thn (ha.run pos pins s σ H _ I h) fun us s1 ⟨vs, H1, I1, r, q⟩ =>
  ⟨I1.kIn, F.runs hr g hb hx I1 r (by simpa using q)⟩) he hpl) hdb)⟩
end
theorem lY {CX : CXT} {P : Program} {w : World} {K : PySem.W.Frag} {mg : Str → Option Value} {base : Heap} {x qual : Str} {st : Stmt} {f : Addr} {fd : FuncData} {N ps : List Str} {k : Nat} {sp : Sp} (F : Fun K x qual st f fd)
  (S : FnScope N ps (defScope st)) (len : ∀ {vs H Q E}, sp vs H Q E → vs.length = ps.length)
  (body : ∀ (cdv : Value) (A : Around) (outer : List Env) (s : Shared) (H : Hp) (vs : List V) (Q : VK) (E : XK), fd.code = cdv → Room k (A.deeper (envOfC qual (defScope st) s.heap.objs.size f cdv)) → bD A → sp vs H Q E →
   ∃ t, PSs (cxOf CX P w K mg base N qual (defScope st) f cdv A outer s H E) (defBody st) t ∧ t { nx := fun _ H' => Q .non H', rt := Q } (start N vs) H) : FnG P w K mg base CX (k + 1) f fd ps sp := by
 obtain ⟨oc, od, kV, doc, pm, an, cdv, ct, osl, rfl, lk, hcd⟩ := F.ex
 refine ⟨len, fun {A outer s H args us vs Q E} hr hg e0 hb r hsp => ?_⟩
 have keep : ∀ b o, base.get? b = some o → s.heap.get? b = some o := fun b o e => (e0.bs b o e).1
 have KX : K.In s.heap := e0.mod.kin.keeps keep
 refine codeAny_call_function hr.depth (KX _ _ lk) rfl S.co S.gen rfl (PySem.W.codeRec_of KX hcd) (hb _ _ _ _ (wpAny_newFunctionEnv_cells S.kind (fun y hy => ?_) fun env he s1 i1 => ?_))
 ·rcases S.par y.1 (List.of_mem_zip hy).1 with q | q
  ·exact .inl q
  ·exact .inr ⟨q, PySem.W.cellsFrom_some _ _ _ (.inl q)⟩
 ·subst he
  obtain ⟨t, ht, hq⟩ := body cdv A outer s H vs Q E rfl (hr.deeper _) hg hsp
  have I := inv_start (CX := CX) (E := E) S hr.hd e0 (len hsp) r i1
  have fin : ∀ {σ' : L2.St} {H' : Hp} {v : V} {u : Value} {z : Shared}, Inv (cxOf CX P w K mg base N qual (defScope st) f cdv A outer s H E) [] σ' H' z → RelV v u → Q v H' → CE outer P w H s Q u z :=
   fun {σ' H' v u z} J rv q => ⟨v, H', J.os, J.bare, J.base, J.hok, rv, q⟩
  refine ⟨(e0.mod.nolimit.keeps keep).keeps i1.toInCall.keep, codeAny_func (wpAny_mono (ht.run [] s1 (start N vs) H _ I hq) (fun fl z hs => ?_) fun _ _ q => q)⟩
  match fl, hs with
  | .ret u, ⟨v, σ', H', J, rv, q⟩ => exact fin J rv q
  | .next, ⟨σ', H', J, q⟩ => exact fin (v := V.non) (u := Value.none) J rfl q
  | .brk, ⟨_, _, _, q⟩ => exact q.elim
  | .cont, ⟨_, _, _, q⟩ => exact q.elim
section
variable {P : Program} {w : World} {K : PySem.W.Frag} {mg mb : Str → Option Value} {CX : CXT} {k : Nat} {fa a : Addr} {fd : FuncData} {x : Str} {sp : Sp} {s₁ : Shared} {vs : List Value} {ns : List Int} {H : Hp}
abbrev l3 (s₁ : Shared) : Result → Shared → Prop := fun r z => r = .ok (.ret (.bool true)) ∧ OldK s₁.heap z.heap ∧ z.os = s₁.os ∧ AllBare z.gens
end
theorem vals_of_ints : ∀ {vs : List Value} {ns : List Int}, IntsAre vs ns → Vals (ns.map V.int) vs
 | _, _, .nil => .nil
 | _, _, .cons n t h => .cons ⟨t, rfl⟩ (vals_of_ints h)
end Q
namespace Q
open PySem L2
section
variable {Z : Zc}
def aC (i : Nat) : ME := fun env => match env[i]? with
 | some (.imm d) => some (d, env)
 | some (.own d) => some (d, env.set i (.imm d))
 | _ => none
def mC (d : D) : ME := fun env => some (d, env)
theorem cD {X : Cx} {x : Str} (h : InF Z X) (hv : Vis Z.sc x) : Vis X.env.scope x := by rw [h.sc]; exact hv
theorem mL {i : Nat} {x : Str} {pos : Pos} (hN : Z.N[i]? = some x) (hv : Vis Z.sc x) (hd : (x == ("__debug__" : Str)) = false := by decide) (hcd : (x == ("__classdict__" : Str)) = false := by decide) : EV Z (.Name x pos) (aC i) := by
 refine ⟨tVar i, fun X h => pe_var (by rw [h.N]; exact hN) (cD h hv) hd hcd, fun g env σ I H Q d env' R hm k => ?_⟩
 unfold aC at hm
 split at hm
 ·rename_i d' e
  cases hm
  obtain ⟨x, hx, v, rfl, r⟩ := R.at_ i _ e
  exact ⟨v, hx, k v I H R (Same.refl _) r⟩
 ·rename_i d' e
  cases hm
  obtain ⟨a, o, hx, R', s, r⟩ := R.frz e
  exact ⟨.ref a, hx, k _ _ H R' s r⟩
 ·cases hm
theorem fv {e : Expr} {d : D} {v : V} (h : ∀ X, InF Z X → PE X e (tC v)) (r : ∀ I, Rep Z.K Z.cl I d v) : EV Z e (mC d) :=
 ⟨tC v, h, fun g env σ I H Q d' env' R hm k => by cases hm; exact k v I H R (Same.refl _) (r I)⟩
theorem ah {i : Int} {j pos} : EV Z (.Constant (.int i) j pos) (mC (.int i)) := fv (fun _ _ => pe_int) fun _ => .int
theorem aR {i : Str} {j pos} : EV Z (.Constant (.str i) j pos) (mC (.str i)) := fv (fun _ _ => pe_str) fun _ => .str
theorem gb {i : Bool} {j pos} : EV Z (.Constant (.bool i) j pos) (mC (.bl i)) := fv (fun _ _ => pe_bl) fun _ => .bl
theorem cO {j pos} : EV Z (.Constant .none j pos) (mC .non) := fv (fun _ _ => pe_non) fun _ => .non
def GlZ (Z : Zc) (x : Str) : Prop := Z.sc.names.lookup x = some .globalImplicit
theorem dt {X : Cx} {x : Str} (h : InF Z X) (hg : GlZ Z x) : Gl X x := by
 show X.env.scope.names.lookup x = _
 rw [h.sc]; exact hg
theorem dk {x : Str} {pos : Pos} {s : Str} (hg : GlZ Z x) (hm0 : ∃ t, Z.mg x = some (.str s t)) (hd : (x == ("__debug__" : Str)) = false := by decide) : EV Z (.Name x pos) (mC (.str s)) :=
 let ⟨t, hm⟩ := hm0
 fv (v := .str s) (fun X h => pe_glob (dt h hg) (by rw [h.mg]; exact hm) ⟨t, rfl⟩ hd) fun _ => .str
theorem jW {x : Str} {pos : Pos} {s : Int} (hg : GlZ Z x) (hm0 : ∃ t, Z.mg x = some (.int s t)) (hd : (x == ("__debug__" : Str)) = false := by decide) : EV Z (.Name x pos) (mC (.int s)) :=
 let ⟨t, hm⟩ := hm0
 fv (v := .int s) (fun X h => pe_glob (dt h hg) (by rw [h.mg]; exact hm) ⟨t, rfl⟩ hd) fun _ => .int
theorem nJ {x : Str} {pos : Pos} {n : String} (hg : GlZ Z x) (hm : Z.mg x = none) (hv : bootBuiltins x = some (.type n)) (hn : x ≠ "__name__" := by decide) (hd : (x == ("__debug__" : Str)) = false := by decide) : EV Z (.Name x pos) (mC (.typ n)) :=
 fv (v := .ty n) (fun X h => pe_bltn (dt h hg) (by rw [h.mg]; exact hm) hv rfl hn hd) fun _ => .typ
inductive Ls where
 | fix (d : D) | slot (i : Nat)
def Sl.rd : Sl → Option D
 | .un => none
 | .imm d => some d
 | .bor d => some d
 | .own d => some d
 | .lck d => some d
 | .io _ d => some d
def Ls.get (l : Ls) (env : En) : Option D := match l with
 | .fix d => some d
 | .slot i => env[i]?.bind Sl.rd
abbrev ML := En → Option (Ls × En)
def Rb (Z : Zc) (I H : Hp) (d : D) (v : V) : Prop := Rep Z.K Z.cl I d v ∨ ∃ a, v = .ref a ∧ Top Z.K Z.cl I H d a
def LsOk (Z : Zc) (I : Hp) (σ : St) : Ls → V → Prop
 | .fix d, v => Rep Z.K Z.cl I d v
 | .slot i, v => σ[i]? = some (some v)
theorem Ls.rb {g : G} {env : En} {σ : St} {I H : Hp} {l : Ls} {v : V} {d : D} (R : SR Z.K Z.cl g env σ I H) (h : LsOk Z I σ l v) (hg : l.get env = some d) : Rb Z I H d v := by
 cases l with
 | fix d' => cases hg; exact .inl h
 | slot i =>
  change env[i]?.bind Sl.rd = some d at hg
  cases e : env[i]? with
  | none => rw [e] at hg; cases hg
  | some s =>
   rw [e] at hg
   obtain ⟨x, hx, q⟩ := R.at_ i s e
   rw [show σ[i]? = some (some v) from h] at hx
   cases hx
   cases s with
   | un => cases hg
   | imm d' => cases hg; obtain ⟨u, hu, r⟩ := q; cases hu; exact .inl r
   | bor d' => cases hg; obtain ⟨a, hu, r⟩ := q; cases hu; exact .inr ⟨a, rfl, r⟩
   | own d' => cases hg; obtain ⟨a, o, hu, h1, h2, _⟩ := q; cases hu; exact .inr ⟨a, rfl, o, h1, h2⟩
   | lck d' => cases hg; obtain ⟨a, o, hu, h1, h2, _⟩ := q; cases hu; exact .inr ⟨a, rfl, o, h1, h2⟩
   | io k d' => cases hg; obtain ⟨a, o, hu, _, h1, h2⟩ := q; cases hu; exact .inr ⟨a, rfl, o, h1, h2⟩
def SL (Z : Zc) (t : TE) (m : ML) : Prop := ∀ (g : G) (env : En) (σ : St) (I H : Hp) (Q : VK) (l : Ls) (env' : En), SR Z.K Z.cl g env σ I H → m env = some (l, env') →
 (∀ v I' H', SR Z.K Z.cl g env' σ I' H' → Same I I' → LsOk Z I' σ l v → Q v H') → t σ H Q
def LV (Z : Zc) (e : Expr) (m : ML) : Prop := ∃ t, (∀ X, InF Z X → PE X e t) ∧ SL Z t m
def af (i : Nat) : ML := fun env => (env[i]?.bind Sl.rd).map fun _ => (.slot i, env)
def aa (m : ME) : ML := fun env => (m env).map fun p => (.fix p.1, p.2)
theorem mU {i : Nat} {x : Str} {pos : Pos} (hN : Z.N[i]? = some x) (hv : Vis Z.sc x) (hd : (x == ("__debug__" : Str)) = false := by decide) (hcd : (x == ("__classdict__" : Str)) = false := by decide) : LV Z (.Name x pos) (af i) := by
 refine ⟨tVar i, fun X h => pe_var (by rw [h.N]; exact hN) (cD h hv) hd hcd, fun g env σ I H Q l env' R hm k => ?_⟩
 unfold af at hm
 cases e : env[i]? with
 | none => rw [e] at hm; cases hm
 | some s =>
  rw [e] at hm
  obtain ⟨x, hx, q⟩ := R.at_ i _ e
  have fin : ∀ v, x = some v → (l, env') = (Ls.slot i, env) → ∃ v, σ[i]? = some (some v) ∧ Q v H := fun v hxv he => by
   cases he
   subst hxv
   exact ⟨v, hx, k v I H R (Same.refl _) hx⟩
  cases s with
  | un => cases hm
  | imm d => cases hm; obtain ⟨v, e, _⟩ := q; exact fin v e rfl
  | bor d => cases hm; obtain ⟨v, e, _⟩ := q; exact fin _ e rfl
  | own d => cases hm; obtain ⟨v, o, e, _⟩ := q; exact fin _ e rfl
  | lck d => cases hm; obtain ⟨v, o, e, _⟩ := q; exact fin _ e rfl
  | io j d => cases hm; obtain ⟨v, o, e, _⟩ := q; exact fin _ e rfl
theorem ab {e : Expr} {m : ME} (h : EV Z e m) : LV Z e (aa m) := by
 obtain ⟨t, h1, h2⟩ := h
 refine ⟨t, h1, fun g env σ I H Q l env' R hm k => ?_⟩
 unfold aa at hm
 cases e : m env with
 | none => rw [e] at hm; cases hm
 | some p =>
  rw [e] at hm
  cases hm
  exact h2 g env σ I H Q p.1 p.2 R e k
theorem LsOk.mono {I I' : Hp} {σ : St} {l : Ls} {v : V} (s : Same I I') (h : LsOk Z I σ l v) : LsOk Z I' σ l v := by
 cases l with
 | fix d => exact Rep.mono s h
 | slot i => exact h
theorem Rb.int {I H : Hp} {i : Int} {v : V} (h : Rb Z I H (.int i) v) : v = .int i := by
 rcases h with h | ⟨a, _, o, _, h⟩
 ·exact h.int_inv
 ·cases h
theorem Rb.str {I H : Hp} {i : Str} {v : V} (h : Rb Z I H (.str i) v) : v = .str i := by
 rcases h with h | ⟨a, _, o, _, h⟩
 ·exact h.str_inv
 ·cases h
theorem Rb.bl {I H : Hp} {i : Bool} {v : V} (h : Rb Z I H (.bl i) v) : v = .bl i := by
 rcases h with h | ⟨a, _, o, _, h⟩
 ·exact h.bl_inv
 ·cases h
theorem Rb.non {I H : Hp} {v : V} (h : Rb Z I H .non v) : v = .non := by
 rcases h with h | ⟨a, _, o, _, h⟩
 ·exact h.non_inv
 ·cases h
theorem Rb.typ {I H : Hp} {n : String} {v : V} (h : Rb Z I H (.typ n) v) : v = .ty n := by
 rcases h with h | ⟨a, _, o, _, h⟩
 ·exact h.typ_inv
 ·cases h
theorem Rb.lst {I H : Hp} {xs : List D} {v : V} (s : Same I H) (h : Rb Z I H (.lst xs) v) : ∃ a vs, v = .ref a ∧ H a = some (.lst vs) ∧ aq Z.K Z.cl I xs vs := by
 rcases h with h | ⟨a, rfl, o, e, h⟩
 ·obtain ⟨a, vs, rfl, e, r⟩ := h.lst_inv
  exact ⟨a, vs, rfl, s _ _ e, r⟩
 ·obtain ⟨vs, rfl, r⟩ := h.lst_inv
  exact ⟨a, vs, rfl, e, r⟩
theorem Rb.scr {I H : Hp} {xs : List D} {v : V} (s : Same I H) (h : Rb Z I H (.scr xs) v) : ∃ a vs, v = .ref a ∧ SqL Z.K H a vs ∧ aq Z.K Z.cl I xs vs := by
 rcases h with h | ⟨a, rfl, o, e, h⟩
 ·obtain ⟨a, vs, rfl, e, r⟩ := h.scr_inv
  exact ⟨a, vs, rfl, s.seq e, r⟩
 ·cases h
theorem SqT.mono {K : PySem.W.Frag} {I I' : Hp} {a : Addr} {vs : List V} (s : Same I I') (h : SqT K I a vs) : SqT K I' a vs := by
 rcases h with (h | ⟨o, h⟩) | h
 ·exact .inl (.inl (s _ _ h))
 ·exact .inl (.inr ⟨o, s _ _ h⟩)
 ·exact .inr h
theorem Rb.tup {I H : Hp} {xs : List D} {v : V} (s : Same I H) (h : Rb Z I H (.tup xs) v) : ∃ a vs, v = .ref a ∧ SqT Z.K H a vs ∧ aq Z.K Z.cl I xs vs := by
 rcases h with h | ⟨a, rfl, o, e, h⟩
 ·obtain ⟨a, vs, rfl, e, r⟩ := h.tup_inv
  exact ⟨a, vs, rfl, SqT.mono s e, r⟩
 ·cases h
theorem Rb.dic {I H : Hp} {ks xs} {v : V} (s : Same I H) (h : Rb Z I H (.dic ks xs) v) : ∃ a vs, v = .ref a ∧ Rd H a (.dK (ks.zip vs)) ∧ aq Z.K Z.cl I xs vs ∧ ks.length = xs.length := by
 rcases h with h | ⟨a, rfl, o, e, h⟩
 ·obtain ⟨a, vs, rfl, e, r, l⟩ := h.dic_inv
  rcases e with e | ⟨od, e⟩
  ·exact ⟨a, vs, rfl, .inl (s _ _ e), r, l⟩
  ·exact ⟨a, vs, rfl, .inr ⟨od, s _ _ e⟩, r, l⟩
 ·obtain ⟨vs, rfl, r, l⟩ := h.dic_inv
  exact ⟨a, vs, rfl, .inl e, r, l⟩
def be (Z : Zc) (r : R2) (f : D → D → Option D) : Prop := ∀ (I H : Hp) (x y z : D) (vx vy : V) (Q : VK), Same I H → Rb Z I H x vx → Rb Z I H y vy → f x y = some z → (∀ vz, Rep Z.K Z.cl I z vz → Q vz H) → r vx vy H Q
def gc (Z : Zc) (r : R2) (f : D → D → Option D) : Prop := ∀ (I H : Hp) (x y z : D) (vx vy : V) (Q : VK), Same I H → Rb Z I H x vx → Rb Z I H y vy → f x y = some z →
 (∀ p o, H p = none → aE Z.K Z.cl I z o → Q (.ref p) (upd H p o)) → r vx vy H Q
def ae (f : D → D → Option D) (a b : ML) : ME := fun env => (a env).bind fun p => (b p.2).bind fun q => (p.1.get q.2).bind fun x => (q.1.get q.2).bind fun y => (f x y).map fun z => (z, q.2)
theorem gX {f : D → D → Option D} {a b : ML} {env env' : En} {z : D} (h : ae f a b env = some (z, env')) :
  ∃ la e1 lb x y, a env = some (la, e1) ∧ b e1 = some (lb, env') ∧ la.get env' = some x ∧ lb.get env' = some y ∧ f x y = some z := by
 unfold ae at h
 cases h1 : a env with
 | none => rw [h1] at h; cases h
 | some p =>
  rw [h1] at h
  simp only [Option.bind_some] at h
  cases h2 : b p.2 with
  | none => rw [h2] at h; cases h
  | some q =>
   rw [h2] at h
   simp only [Option.bind_some] at h
   cases h3 : p.1.get q.2 with
   | none => rw [h3] at h; cases h
   | some x =>
    rw [h3] at h
    simp only [Option.bind_some] at h
    cases h4 : q.1.get q.2 with
    | none => rw [h4] at h; cases h
    | some y =>
     rw [h4] at h
     simp only [Option.bind_some] at h
     cases h5 : f x y with
     | none => rw [h5] at h; cases h
     | some w =>
      rw [h5] at h
      cases h
      exact ⟨_, _, _, _, _, rfl, h2, h3, h4, h5⟩
theorem eS {r : R2} {f : D → D → Option D} {ta tb : TE} {ma mb : ML} (hr : be Z r f) (ha : SL Z ta ma) (hb : SL Z tb mb) : SE Z (tOp r ta tb) (ae f ma mb) := by
 intro g env σ I H Q d env' R hm k
 obtain ⟨la, e1, lb, x, y, h1, h2, h3, h4, h5⟩ := gX hm
 refine ha g env σ I H _ la e1 R h1 fun vx I1 H1 R1 s1 o1 => ?_
 refine hb g e1 σ I1 H1 _ lb env' R1 h2 fun vy I2 H2 R2 s2 o2 => ?_
 exact hr I2 H2 x y d vx vy Q R2.sub (Ls.rb R2 (o1.mono s2) h3) (Ls.rb R2 o2 h4) h5 fun vz rz => k vz I2 H2 R2 (s1.trans s2) rz
theorem m7 {r : R2} {f : D → D → Option D} {ta tb : TE} {ma mb : ML} (hr : gc Z r f) (ha : SL Z ta ma) (hb : SL Z tb mb) : SF Z (tOp r ta tb) (ae f ma mb) := by
 intro g env σ I H Q d env' R hm k
 obtain ⟨la, e1, lb, x, y, h1, h2, h3, h4, h5⟩ := gX hm
 refine ha g env σ I H _ la e1 R h1 fun vx I1 H1 R1 s1 o1 => ?_
 refine hb g e1 σ I1 H1 _ lb env' R1 h2 fun vy I2 H2 R2 s2 o2 => ?_
 exact hr I2 H2 x y d vx vy Q R2.sub (Ls.rb R2 (o1.mono s2) h3) (Ls.rb R2 o2 h4) h5 fun p o hp ro => k p o I2 (upd H2 p o) (R2.alloc hp o) (s1.trans s2) (R2.new hp) ro
theorem aF {op : Operator} {r : R2} {f : D → D → Option D} {a b : Expr} {ma mb : ML} {pos : Pos} (ho : ∀ X, InF Z X → OpR X (binaryOp op) r) (hr : be Z r f) (ha : LV Z a ma) (hb : LV Z b mb) : EV Z (.BinOp a op b pos) (ae f ma mb) := by
 obtain ⟨ta, a1, a2⟩ := ha
 obtain ⟨tb, b1, b2⟩ := hb
 exact ⟨_, fun X h => pe_op (ho X h) (a1 X h) (b1 X h), eS hr a2 b2⟩
theorem oG {op : Operator} {r : R2} {f : D → D → Option D} {a b : Expr} {ma mb : ML} {pos : Pos} (ho : ∀ X, InF Z X → OpR X (binaryOp op) r) (hr : gc Z r f) (ha : LV Z a ma) (hb : LV Z b mb) : EF Z (.BinOp a op b pos) (ae f ma mb) := by
 obtain ⟨ta, a1, a2⟩ := ha
 obtain ⟨tb, b1, b2⟩ := hb
 exact ⟨_, fun X h => pe_op (ho X h) (a1 X h) (b1 X h), m7 hr a2 b2⟩
theorem eU {op : CmpOp} {r : R2} {f : D → D → Option D} {a b : Expr} {ma mb : ML} {pos : Pos} (ho : ∀ X, InF Z X → OpR X (compareOp op) r) (hr : be Z r f) (ha : LV Z a ma) (hb : LV Z b mb) (hm : behindInMarks op b = false) : EV Z (.Compare a [op] [b] pos) (ae f ma mb) := by
 obtain ⟨ta, a1, a2⟩ := ha
 obtain ⟨tb, b1, b2⟩ := hb
 exact ⟨_, fun X h => pe_cmpR (ho X h) (a1 X h) (b1 X h) hm, eS hr a2 b2⟩
def ao (m : ME) : MT := fun env => (m env).bind fun p => match p.1 with
 | .bl b => some (b, p.2)
 | _ => none
theorem eW {m : ME} {env env' : En} {b : Bool} (h : ao m env = some (b, env')) : m env = some (.bl b, env') := by
 unfold ao at h
 cases h1 : m env with
 | none => rw [h1] at h; cases h
 | some p =>
  rw [h1] at h
  obtain ⟨d, e⟩ := p
  cases d <;> first | (cases h; rfl) | cases h
theorem bf {op : CmpOp} {r : R2} {f : D → D → Option D} {a b : Expr} {ma mb : ML} {pos : Pos} (ho : ∀ X, InF Z X → OpR X (compareOp op) r) (hr : be Z r f) (ha : LV Z a ma) (hb : LV Z b mb) (hm : behindInMarks op b = false) : TV Z (.Compare a [op] [b] pos) (ao (ae f ma mb)) := by
 obtain ⟨ta, a1, a2⟩ := ha
 obtain ⟨tb, b1, b2⟩ := hb
 refine ⟨_, fun X h => pt_cmpR (ho X h) (a1 X h) (b1 X h) hm, fun g env σ I H Q c env' R hm k => ?_⟩
 refine eS hr a2 b2 g env σ I H _ _ env' R (eW hm) fun v I' H' R' s rv => ?_
 exact ⟨c, rv.bl_inv, k I' H' R' s⟩
end
end Q
namespace Q
open PySem L2
section
variable {Z : Zc}
def aT : D → D → Option D
 | .int a, .int b => some (.int (a + b))
 | .str a, .str b => if a.length + b.length ≤ sizeLine then some (.str (a ++ b)) else none
 | _, _ => none
def kK : R2 := fun x y H Q => rI0 (fun i j => .int (i + j)) x y H Q ∨ ∃ i j, x = .str i ∧ y = .str j ∧ i.length + j.length ≤ sizeLine ∧ Q (.str (i ++ j)) H
theorem a8 : be Z kK aT := by
 intro I H x y z vx vy Q s rx ry h k
 unfold aT at h
 split at h
 ·cases h; cases rx.int; cases ry.int; exact .inl ⟨_, _, rfl, rfl, k _ .int⟩
 ·split at h
  ·rename_i hl; cases h; cases rx.str; cases ry.str; exact .inr ⟨_, _, rfl, rfl, hl, k _ .str⟩
  ·cases h
 ·cases h
theorem a9 {X : Cx} : OpR X (binaryOp .Add) kK := OpR.or op_add op_add_str
def gU : D → D → Option D
 | .int a, .int b => some (.int (a - b))
 | _, _ => none
theorem mu : be Z (rI0 fun i j => .int (i - j)) gU := by
 intro I H x y z vx vy Q s rx ry h k
 unfold gU at h
 split at h
 ·cases h; cases rx.int; cases ry.int; exact ⟨_, _, rfl, rfl, k _ .int⟩
 ·cases h
instance (i j : Int) : Decidable (CMul i j) := by unfold CMul; exact inferInstance
instance (i j : Int) : Decidable (CDiv i j) := by unfold CDiv; exact inferInstance
instance (i j : Int) : Decidable (CPow i j) := by unfold CPow; exact inferInstance
def bB : D → D → Option D
 | .int a, .int b => if CMul a b then some (.int (a * b)) else none
 | _, _ => none
theorem dM : be Z (rI CMul fun i j => .int (i * j)) bB := by
 intro I H x y z vx vy Q s rx ry h k
 unfold bB at h
 split at h
 ·split at h
  ·rename_i hl; cases h; cases rx.int; cases ry.int; exact ⟨_, _, rfl, rfl, hl, k _ .int⟩
  ·cases h
 ·cases h
def ei : D → D → Option D
 | .int a, .int b => if CDiv a b then some (.int (a / b)) else none
 | _, _ => none
theorem jq : be Z (rI CDiv fun i j => .int (i / j)) ei := by
 intro I H x y z vx vy Q s rx ry h k
 unfold ei at h
 split at h
 ·split at h
  ·rename_i hl; cases h; cases rx.int; cases ry.int; exact ⟨_, _, rfl, rfl, hl, k _ .int⟩
  ·cases h
 ·cases h
def bU : D → D → Option D
 | .int a, .int b => if 0 < b then some (.int (a % b)) else none
 | _, _ => none
theorem c7 : be Z (rI (fun _ j => 0 < j) fun i j => .int (i % j)) bU := by
 intro I H x y z vx vy Q s rx ry h k
 unfold bU at h
 split at h
 ·split at h
  ·rename_i hl; cases h; cases rx.int; cases ry.int; exact ⟨_, _, rfl, rfl, hl, k _ .int⟩
  ·cases h
 ·cases h
def gq : D → D → Option D
 | .int a, .int b => if CPow a b then some (.int (a ^ b.toNat)) else none
 | _, _ => none
theorem mq : be Z (rI CPow fun i j => .int (i ^ j.toNat)) gq := by
 intro I H x y z vx vy Q s rx ry h k
 unfold gq at h
 split at h
 ·split at h
  ·rename_i hl; cases h; cases rx.int; cases ry.int; exact ⟨_, _, rfl, rfl, hl, k _ .int⟩
  ·cases h
 ·cases h
def hV : D → D → Option D
 | .lst a, .lst b => if a.length + b.length ≤ sizeLine then some (.lst (a ++ b)) else none
 | _, _ => none
theorem nh : gc Z rCat hV := by
 intro I H x y z vx vy Q s rx ry h k
 unfold hV at h
 split at h
 ·split at h
  ·rename_i hl
   cases h
   obtain ⟨a, vs, rfl, ha, ra⟩ := rx.lst s
   obtain ⟨b, us, rfl, hb, rb⟩ := ry.lst s
   exact ⟨a, b, vs, us, rfl, rfl, ha, hb, by rw [← ra.length, ← rb.length]; exact hl, fun p hp => k p _ hp (.lst (ra.append rb))⟩
  ·cases h
 ·cases h
def fm (p : Int → Int → Bool) : D → D → Option D
 | .int a, .int b => some (.bl (p a b))
 | _, _ => none
theorem cM {p : Int → Int → Bool} : be Z (rI0 fun i j => .bl (p i j)) (fm p) := by
 intro I H x y z vx vy Q s rx ry h k
 unfold fm at h
 split at h
 ·cases h; cases rx.int; cases ry.int; exact ⟨_, _, rfl, rfl, k _ .bl⟩
 ·cases h
abbrev dLt := fm fun i j => decide (i < j)
abbrev dLe := fm fun i j => decide (i ≤ j)
abbrev dGt := fm fun i j => decide (j < i)
abbrev dGe := fm fun i j => decide (j ≤ i)
mutual
def toP : D → Option PyData
 | .non => some .none
 | .bl b => some (.bool b)
 | .int i => some (.int i)
 | .str s => some (.str s)
 | .lst xs => (cE xs).map .list
 | .scr xs => (cE xs).map .list
 | .tup xs => (cE xs).map .tuple
 | _ => none
def cE : List D → Option (List PyData)
 | [] => some []
 | x :: xs => (toP x).bind fun p => (cE xs).map fun ps => p :: ps
end
mutual
theorem jy {I H : Hp} (s : Same I H) : ∀ (d : D) (p : PyData) (v : V), toP d = some p → Rep Z.K Z.cl I d v → Dp Z.K H v p
 | .non, p, v, h, r => by unfold toP at h; cases h; cases r.non_inv; exact .non
 | .bl b, p, v, h, r => by unfold toP at h; cases h; cases r.bl_inv; exact .bl _
 | .int b, p, v, h, r => by unfold toP at h; cases h; cases r.int_inv; exact .int _
 | .str b, p, v, h, r => by unfold toP at h; cases h; cases r.str_inv; exact .str _
 | .lst xs, p, v, h, r => by
  unfold toP at h
  cases e : cE xs with
  | none => rw [e] at h; cases h
  | some ps =>
   rw [e] at h; cases h
   obtain ⟨a, vs, rfl, ha, ra⟩ := r.lst_inv
   exact .lst (SqL.of (s _ _ ha)) (ee s xs ps vs e ra)
 | .scr xs, p, v, h, r => by
  unfold toP at h
  cases e : cE xs with
  | none => rw [e] at h; cases h
  | some ps =>
   rw [e] at h; cases h
   obtain ⟨a, vs, rfl, ha, ra⟩ := r.scr_inv
   exact .lst (s.seq ha) (ee s xs ps vs e ra)
 | .tup xs, p, v, h, r => by
  unfold toP at h
  cases e : cE xs with
  | none => rw [e] at h; cases h
  | some ps =>
   rw [e] at h; cases h
   obtain ⟨a, vs, rfl, ha, ra⟩ := r.tup_inv
   exact .tup (SqT.mono s ha) (ee s xs ps vs e ra)
 | .dic _ _, p, v, h, r => by unfold toP at h; cases h
 | .obj _ _ _, p, v, h, r => by unfold toP at h; cases h
 | .typ _, p, v, h, r => by unfold toP at h; cases h
 | .dcn _ _, p, v, h, r => by unfold toP at h; cases h
theorem ee {I H : Hp} (s : Same I H) : ∀ (ds : List D) (ps : List PyData) (vs : List V), cE ds = some ps → aq Z.K Z.cl I ds vs → DpAll Z.K H vs ps
 | [], ps, vs, h, r => by unfold cE at h; cases h; cases r; exact .nil
 | d :: ds, ps, vs, h, r => by
  unfold cE at h
  cases e : toP d with
  | none => rw [e] at h; cases h
  | some p =>
   rw [e] at h
   cases e2 : cE ds with
   | none => rw [e2] at h; cases h
   | some qs =>
    rw [e2] at h
    cases h
    cases r with
    | cons r1 r2 => exact .cons (jy s d p _ e r1) (ee s ds qs _ e2 r2)
end
theorem Rb.dp {I H : Hp} (s : Same I H) {d : D} {p : PyData} {v : V} (h : toP d = some p) (r : Rb Z I H d v) : Dp Z.K H v p := by
 rcases r with r | ⟨a, rfl, o, ha, r⟩
 ·exact jy s d p v h r
 ·cases r with
  | lst ra =>
   unfold toP at h
   rename_i xs vs
   cases e : cE xs with
   | none => rw [e] at h; cases h
   | some ps => rw [e] at h; cases h; exact .lst (SqL.of ha) (ee s _ _ _ e ra)
  | dic => unfold toP at h; cases h
  | obj => unfold toP at h; cases h
  | dcn => unfold toP at h; cases h
def aG (neg : Bool) : D → D → Option D
 | .str a, .str b => some (.bl (if neg then !decide (a = b) else decide (a = b)))
 | x, y => (toP x).bind fun d => (toP y).bind fun e => if (SeqAt.shaped d && SeqAt.shaped e) = true then some (.bl (if neg then !PyData.eqv d e else PyData.eqv d e)) else none
def ny (K : PySem.W.Frag) : R2 := fun x y H Q => rEq x y H Q ∨ rEqD K x y H Q
def mH (K : PySem.W.Frag) : R2 := fun x y H Q => rNe x y H Q ∨ rNeD K x y H Q
theorem or_eq {X : Cx} (h : InF Z X) : OpR X (compareOp .Eq) (ny Z.K) := by
 rw [← h.K]
 exact OpR.or op_eq (op_eqD h.room.units)
theorem f9 {X : Cx} (h : InF Z X) : OpR X (compareOp .NotEq) (mH Z.K) := by
 rw [← h.K]
 exact OpR.or op_ne (op_neD h.room.units)
theorem g6 {neg : Bool} {x y z : D} (h : aG neg x y = some z) : (∃ a b, x = .str a ∧ y = .str b ∧ z = .bl (if neg then !decide (a = b) else decide (a = b))) ∨
  ∃ d e, toP x = some d ∧ toP y = some e ∧ SeqAt.shaped d = true ∧ SeqAt.shaped e = true ∧ z = .bl (if neg then !PyData.eqv d e else PyData.eqv d e) := by
 unfold aG at h
 split at h
 ·cases h; exact .inl ⟨_, _, rfl, rfl, rfl⟩
 ·refine .inr ?_
  cases e1 : toP x with
  | none => rw [e1] at h; cases h
  | some d =>
   rw [e1] at h
   cases e2 : toP y with
   | none => rw [e2] at h; cases h
   | some e =>
    rw [e2] at h
    simp only [Option.bind_some] at h
    split at h
    ·rename_i hs
     cases h
     rw [Bool.and_eq_true] at hs
     exact ⟨d, e, rfl, rfl, hs.1, hs.2, rfl⟩
    ·cases h
theorem dh : be Z (ny Z.K) (aG false) := by
 intro I H x y z vx vy Q s rx ry h k
 rcases g6 h with ⟨a, b, rfl, rfl, rfl⟩ | ⟨d, e, h1, h2, h3, h4, rfl⟩
 ·cases rx.str; cases ry.str
  refine .inl ⟨rfl, ?_⟩
  have e : decide (V.str a = V.str b) = decide (a = b) := by simp
  rw [e]
  exact k _ .bl
 ·exact .inr ⟨d, e, rx.dp s h1, ry.dp s h2, h3, h4, k _ .bl⟩
theorem fF : be Z (mH Z.K) (aG true) := by
 intro I H x y z vx vy Q s rx ry h k
 rcases g6 h with ⟨a, b, rfl, rfl, rfl⟩ | ⟨d, e, h1, h2, h3, h4, rfl⟩
 ·cases rx.str; cases ry.str
  refine .inl ⟨rfl, ?_⟩
  have e : decide (V.str a = V.str b) = decide (a = b) := by simp
  rw [e]
  exact k _ .bl
 ·exact .inr ⟨d, e, rx.dp s h1, ry.dp s h2, h3, h4, k _ .bl⟩
def D.isNon : D → Bool
 | .non => true
 | _ => false
def dIs (neg : Bool) : D → D → Option D
 | x, .non => some (.bl (if neg then !x.isNon else x.isNon))
 | _, _ => none
theorem Rb.isNon {I H : Hp} {d : D} {v : V} (r : Rb Z I H d v) : decide (v = .non) = d.isNon := by
 rcases r with r | ⟨a, rfl, o, ha, r⟩
 ·cases r with
  | obj _ q => cases q <;> rfl
  | _ => rfl
 ·cases r <;> rfl
theorem nW : be Z (fun x y H Q => y = .non ∧ Q (.bl (decide (x = .non))) H) (dIs false) := by
 intro I H x y z vx vy Q s rx ry h k
 unfold dIs at h
 split at h
 ·cases h; cases ry.non
  rw [rx.isNon]
  exact ⟨rfl, k _ .bl⟩
 ·cases h
theorem ki : be Z (fun x y H Q => y = .non ∧ Q (.bl (!decide (x = .non))) H) (dIs true) := by
 intro I H x y z vx vy Q s rx ry h k
 unfold dIs at h
 split at h
 ·cases h; cases ry.non
  rw [rx.isNon]
  exact ⟨rfl, k _ .bl⟩
 ·cases h
end
end Q
namespace Q
open PySem L2
section
variable {Z : Zc}
def D.items? : D → Option (List D)
 | .lst xs => some xs
 | .scr xs => some xs
 | .tup xs => some xs
 | _ => none
def D.flat? : D → Option V
 | .non => some .non
 | .bl b => some (.bl b)
 | .int i => some (.int i)
 | .str s => some (.str s)
 | _ => none
def cQ : List D → Option (List V)
 | [] => some []
 | d :: ds => d.flat?.bind fun v => (cQ ds).map fun vs => v :: vs
theorem gV {K : PySem.W.Frag} {cl : String → Option Addr} {I : Hp} {d : D} {v u : V} (h : d.flat? = some v) (r : Rep K cl I d u) : u = v ∧ flatV v = true := by
 cases d <;> simp only [D.flat?] at h <;> first | (cases h; first | exact ⟨r.non_inv, rfl⟩ | exact ⟨r.bl_inv, rfl⟩ | exact ⟨r.int_inv, rfl⟩ | exact ⟨r.str_inv, rfl⟩) | cases h
theorem gD {K : PySem.W.Frag} {cl : String → Option Addr} {I : Hp} : ∀ {ds : List D} {vs us : List V}, cQ ds = some vs → aq K cl I ds us → us = vs ∧ vs.all flatV = true
 | [], vs, us, h, r => by cases h; cases r; exact ⟨rfl, rfl⟩
 | d :: ds, vs, us, h, r => by
  unfold cQ at h
  cases e : d.flat? with
  | none => rw [e] at h; cases h
  | some v =>
   rw [e] at h
   cases e2 : cQ ds with
   | none => rw [e2] at h; cases h
   | some ws =>
    rw [e2] at h
    cases h
    cases r with
    | cons r1 r2 =>
     obtain ⟨rfl, h1⟩ := gV e r1
     obtain ⟨rfl, h2⟩ := gD e2 r2
     exact ⟨rfl, by rw [List.all_cons, h1, h2]; rfl⟩
theorem Rb.flat {I H : Hp} {d : D} {v u : V} (h : d.flat? = some v) (r : Rb Z I H d u) : u = v ∧ flatV v = true := by
 rcases r with r | ⟨a, rfl, o, _, r⟩
 ·exact gV h r
 ·cases r <;> cases h
def Str.sign? (s : Str) : Option Nat := match s.cps.toList with
 | [c] => some c
 | _ => none
def dIn (neg : Bool) (x y : D) : Option D := match y with
 | .str z => match x with
  | .str s => some (.bl (match Str.sign? s with
   | some c => if neg then !decide (c ∈ z.cps.toList) else decide (c ∈ z.cps.toList)
   | none => if neg then !(!(Builtin.Str.occurrences z s 0 z.length 1).isEmpty) else !(Builtin.Str.occurrences z s 0 z.length 1).isEmpty))
  | _ => none
 | _ => y.items?.bind fun ds => (cQ ds).bind fun vs => x.flat?.map fun v => .bl (if neg then !inV v vs else inV v vs)
def kB (K : PySem.W.Frag) : R2 := fun x y H Q => (∃ (c : Nat) (z : Str), x = .str ⟨#[c]⟩ ∧ y = .str z ∧ Q (.bl (!decide (c ∈ z.cps.toList))) H) ∨ (∃ i j, x = .str i ∧ y = .str j ∧ Q (.bl (!(!(Builtin.Str.occurrences j i 0 j.length 1).isEmpty))) H) ∨ rIn K true x y H Q
theorem fP {X : Cx} (h : InF Z X) : OpR X (compareOp .NotIn) (kB Z.K) := by
 rw [← h.K]
 exact OpR.or op_notIn_sign (OpR.or op_notin_str op_notIn_seq)
theorem j0 {s : Str} {c : Nat} (h : Str.sign? s = some c) : s = ⟨#[c]⟩ := by
 unfold Str.sign? at h
 obtain ⟨a⟩ := s
 split at h
 ·rename_i d e
  cases h
  have : a = #[c] := by
   have q := congrArg List.toArray e
   simpa using q
  rw [this]
 ·cases h
theorem lq {neg : Bool} {x y z : D} (h : dIn neg x y = some z) :
  (∃ s t, x = .str s ∧ y = .str t ∧ z = .bl (match Str.sign? s with
   | some c => if neg then !decide (c ∈ t.cps.toList) else decide (c ∈ t.cps.toList)
   | none => if neg then !(!(Builtin.Str.occurrences t s 0 t.length 1).isEmpty) else !(Builtin.Str.occurrences t s 0 t.length 1).isEmpty)) ∨
  ∃ ds vs v, y.items? = some ds ∧ cQ ds = some vs ∧ x.flat? = some v ∧ z = .bl (if neg then !inV v vs else inV v vs) := by
 unfold dIn at h
 split at h
 ·split at h
  ·cases h; exact .inl ⟨_, _, rfl, rfl, rfl⟩
  ·cases h
 ·refine .inr ?_
  cases e1 : y.items? with
  | none => rw [e1] at h; cases h
  | some ds =>
   rw [e1] at h
   simp only [Option.bind_some] at h
   cases e2 : cQ ds with
   | none => rw [e2] at h; cases h
   | some vs =>
    rw [e2] at h
    simp only [Option.bind_some] at h
    cases e3 : x.flat? with
    | none => rw [e3] at h; cases h
    | some v => rw [e3] at h; cases h; exact ⟨_, _, _, rfl, e2, rfl, rfl⟩
theorem Rb.items {I H : Hp} (s : Same I H) {d : D} {xs : List D} {v : V} (h : d.items? = some xs) (r : Rb Z I H d v) : ∃ a vs, v = .ref a ∧ (SqL Z.K H a vs ∨ SqT Z.K H a vs) ∧ aq Z.K Z.cl I xs vs := by
 unfold D.items? at h
 split at h
 ·cases h; obtain ⟨a, vs, e, h1, h2⟩ := r.lst s; exact ⟨a, vs, e, .inl (SqL.of h1), h2⟩
 ·cases h; obtain ⟨a, vs, e, h1, h2⟩ := r.scr s; exact ⟨a, vs, e, .inl h1, h2⟩
 ·cases h; obtain ⟨a, vs, e, h1, h2⟩ := r.tup s; exact ⟨a, vs, e, .inr h1, h2⟩
 ·cases h
theorem fC : be Z (kB Z.K) (dIn true) := by
 intro I H x y z vx vy Q s rx ry h k
 rcases lq h with ⟨a, b, rfl, rfl, rfl⟩ | ⟨ds, vs, v, h1, h2, h3, rfl⟩
 ·cases rx.str; cases ry.str
  cases e : Str.sign? a with
  | some c =>
   rw [e] at k
   cases j0 e
   exact .inl ⟨c, b, rfl, rfl, k _ .bl⟩
  | none => rw [e] at k; exact .inr (.inl ⟨a, b, rfl, rfl, k _ .bl⟩)
 ·obtain ⟨p, us, rfl, h4, h5⟩ := ry.items s h1
  obtain ⟨rfl, h6⟩ := gD h2 h5
  obtain ⟨rfl, h7⟩ := rx.flat h3
  exact .inr (.inr ⟨p, us, rfl, h4, h7, h6, k _ .bl⟩)
def D.key? : D → Option Key
 | .int i => some (.inl i)
 | .str s => some (.inr s)
 | _ => none
def dIx : D → D → Option D
 | .lst xs, .int i => atI xs i
 | .scr xs, .int i => atI xs i
 | .tup xs, .int i => atI xs i
 | .str z, .int i => if z.length ≤ sizeLine then (atI z.cps.toList i).map fun c => .str ⟨#[c]⟩ else none
 | _, _ => none
theorem gz {K : PySem.W.Frag} {cl : String → Option Addr} {I : Hp} {xs : List D} {vs : List V} {i : Int} {d : D} (r : aq K cl I xs vs) (h : atI xs i = some d) : ∃ v, atI vs i = some v ∧ Rep K cl I d v := by
 unfold atI at h ⊢
 rw [← r.length]
 cases e : ixN xs.length i with
 | none => rw [e] at h; cases h
 | some j =>
  rw [e] at h
  exact r.get (show xs[j]? = some d from h)
theorem oR : be Z (rIx Z.K) dIx := by
 intro I H x y z vx vy Q s rx ry h k
 unfold dIx at h
 split at h
 ·obtain ⟨a, vs, rfl, h1, h2⟩ := rx.lst s
  cases ry.int
  obtain ⟨v, h3, h4⟩ := gz h2 h
  exact .inl ⟨a, vs, _, v, rfl, rfl, SqL.of h1, h3, k _ h4⟩
 ·obtain ⟨a, vs, rfl, h1, h2⟩ := rx.scr s
  cases ry.int
  obtain ⟨v, h3, h4⟩ := gz h2 h
  exact .inl ⟨a, vs, _, v, rfl, rfl, h1, h3, k _ h4⟩
 ·obtain ⟨a, vs, rfl, h1, h2⟩ := rx.tup s
  cases ry.int
  obtain ⟨v, h3, h4⟩ := gz h2 h
  exact .inr (.inl ⟨a, vs, _, v, rfl, rfl, h1, h3, k _ h4⟩)
 ·rename_i zz i
  split at h
  ·rename_i hl
   cases rx.str; cases ry.int
   cases e : atI zz.cps.toList i with
   | none => rw [e] at h; cases h
   | some c => rw [e] at h; cases h; exact .inr (.inr ⟨_, _, c, rfl, rfl, hl, e, k _ .str⟩)
  ·cases h
 ·cases h
theorem oK {X : Cx} (h : InF Z X) : IxR X (rIx Z.K) := by
 rw [← h.K]
 exact ix_seq
theorem ba {a b : Expr} {ma mb : ML} {pos : Pos} (ha : LV Z a ma) (hb : LV Z b mb) (hs : PlainIx b := by exact fun _ _ => rfl) : EV Z (.Subscript a b pos) (ae dIx ma mb) := by
 obtain ⟨ta, a1, a2⟩ := ha
 obtain ⟨tb, b1, b2⟩ := hb
 exact ⟨_, fun X h => pe_ix (oK h) (a1 X h) (b1 X h) hs, eS oR a2 b2⟩
end
end Q
namespace Q
open PySem L2
section
variable {Z : Zc}
def eu (a b : MT) : MT := fun env => (a env).bind fun p => if p.1 then b p.2 else some (false, p.2)
def mOr (a b : MT) : MT := fun env => (a env).bind fun p => if p.1 then some (true, p.2) else b p.2
def b9 (a : MT) : MT := fun env => (a env).map fun p => (!p.1, p.2)
def WV (Z : Zc) (e : Expr) (m : MT) : Prop := ∃ t, (∀ X, InF Z X → PW X e t) ∧ ST Z t m
theorem WV.tv {e : Expr} {m : MT} (h : WV Z e m) : TV Z e m := let ⟨t, h1, h2⟩ := h; ⟨t, fun X i => (h1 X i).pt, h2⟩
theorem iK {a : Expr} {m : MT} {pos : Pos} (h : TV Z a m) : WV Z (.BoolOp .And [a] pos) m := let ⟨t, h1, h2⟩ := h; ⟨t, fun X i => pw_and1 (h1 X i), h2⟩
theorem fE {a : Expr} {m : MT} {pos : Pos} (h : TV Z a m) : WV Z (.BoolOp .Or [a] pos) m := let ⟨t, h1, h2⟩ := h; ⟨t, fun X i => pw_or1 (h1 X i), h2⟩
theorem mZ {ta tb : TT} {ma mb : MT} (ha : ST Z ta ma) (hb : ST Z tb mb) : ST Z (tAnd ta tb) (eu ma mb) := by
 intro g env σ I H Q c env' R hm k
 unfold eu at hm
 cases e : ma env with
 | none => rw [e] at hm; cases hm
 | some p =>
  obtain ⟨b, e1⟩ := p
  rw [e] at hm
  simp only [Option.bind_some] at hm
  refine ha g env σ I H _ b e1 R e fun I1 H1 R1 s1 => ?_
  cases b with
  | true => exact hb g e1 σ I1 H1 Q c env' R1 hm fun I2 H2 R2 s2 => k I2 H2 R2 (s1.trans s2)
  | false => cases hm; exact k I1 H1 R1 s1
theorem nX {ta tb : TT} {ma mb : MT} (ha : ST Z ta ma) (hb : ST Z tb mb) : ST Z (tOr ta tb) (mOr ma mb) := by
 intro g env σ I H Q c env' R hm k
 unfold mOr at hm
 cases e : ma env with
 | none => rw [e] at hm; cases hm
 | some p =>
  obtain ⟨b, e1⟩ := p
  rw [e] at hm
  simp only [Option.bind_some] at hm
  refine ha g env σ I H _ b e1 R e fun I1 H1 R1 s1 => ?_
  cases b with
  | false => exact hb g e1 σ I1 H1 Q c env' R1 hm fun I2 H2 R2 s2 => k I2 H2 R2 (s1.trans s2)
  | true => cases hm; exact k I1 H1 R1 s1
theorem jJ {a b : Expr} {r : List Expr} {ma mb : MT} {pos : Pos} (ha : TV Z a ma) (hb : WV Z (.BoolOp .And (b :: r) pos) mb) : WV Z (.BoolOp .And (a :: b :: r) pos) (eu ma mb) := by
 obtain ⟨ta, a1, a2⟩ := ha
 obtain ⟨tb, b1, b2⟩ := hb
 exact ⟨_, fun X h => pw_and (a1 X h) (b1 X h), mZ a2 b2⟩
theorem gM {a b : Expr} {r : List Expr} {ma mb : MT} {pos : Pos} (ha : TV Z a ma) (hb : WV Z (.BoolOp .Or (b :: r) pos) mb) : WV Z (.BoolOp .Or (a :: b :: r) pos) (mOr ma mb) := by
 obtain ⟨ta, a1, a2⟩ := ha
 obtain ⟨tb, b1, b2⟩ := hb
 exact ⟨_, fun X h => pw_or (a1 X h) (b1 X h), nX a2 b2⟩
theorem fR {a : Expr} {ma : MT} {pos : Pos} (ha : TV Z a ma) : TV Z (.UnaryOp .Not a pos) (b9 ma) := by
 obtain ⟨ta, a1, a2⟩ := ha
 refine ⟨_, fun X h => pt_not (a1 X h), fun g env σ I H Q c env' R hm k => ?_⟩
 unfold b9 at hm
 cases e : ma env with
 | none => rw [e] at hm; cases hm
 | some p =>
  rw [e] at hm; cases hm
  exact a2 g env σ I H _ p.1 p.2 R e fun I1 H1 R1 s1 => k I1 H1 R1 s1
def oO (a b : ME) : ME := fun env => (ao a env).bind fun p => if p.1 then b p.2 else some (.bl false, p.2)
def fy (a b : ME) : ME := fun env => (ao a env).bind fun p => if p.1 then some (.bl true, p.2) else b p.2
def oa (a : ME) : ME := fun env => (ao a env).map fun p => (.bl (!p.1), p.2)
theorem mw {a : Expr} {op} {m : ME} {pos : Pos} (h : EV Z a m) : EV Z (.BoolOp op [a] pos) m := let ⟨t, h1, h2⟩ := h; ⟨t, fun X i => pe_one (h1 X i), h2⟩
theorem oN {a b : Expr} {r : List Expr} {ma mb : ME} {pos : Pos} (ha : EV Z a ma) (hb : EV Z (.BoolOp .Or (b :: r) pos) mb) : EV Z (.BoolOp .Or (a :: b :: r) pos) (fy ma mb) := by
 obtain ⟨ta, a1, a2⟩ := ha
 obtain ⟨tb, b1, b2⟩ := hb
 refine ⟨_, fun X h => pe_or (a1 X h) (b1 X h), fun g env σ I H Q c env' R hm k => ?_⟩
 unfold fy at hm
 cases e : ao ma env with
 | none => rw [e] at hm; cases hm
 | some p =>
  obtain ⟨b, e1⟩ := p
  rw [e] at hm
  simp only [Option.bind_some] at hm
  refine a2 g env σ I H _ _ e1 R (eW e) fun v I1 H1 R1 s1 r1 => ⟨b, r1.bl_inv, ?_⟩
  cases b with
  | false => exact b2 g e1 σ I1 H1 Q c env' R1 hm fun v I2 H2 R2 s2 => k v I2 H2 R2 (s1.trans s2)
  | true => cases hm; exact k _ I1 H1 R1 s1 .bl
def mIf (c : MT) (a b : ME) : ME := fun env => (c env).bind fun p => if p.1 then a p.2 else b p.2
theorem nM {c a b : Expr} {mc : MT} {ma mb : ME} {pos : Pos} (hc : TV Z c mc) (ha : EV Z a ma) (hb : EV Z b mb) : EV Z (.IfExp c a b pos) (mIf mc ma mb) := by
 obtain ⟨tc, c1, c2⟩ := hc
 obtain ⟨ta, a1, a2⟩ := ha
 obtain ⟨tb, b1, b2⟩ := hb
 refine ⟨_, fun X h => pe_ifExp (c1 X h) (a1 X h) (b1 X h), fun g env σ I H Q d env' R hm k => ?_⟩
 unfold mIf at hm
 cases e : mc env with
 | none => rw [e] at hm; cases hm
 | some p =>
  obtain ⟨b, e1⟩ := p
  rw [e] at hm
  simp only [Option.bind_some] at hm
  refine c2 g env σ I H _ b e1 R e fun I1 H1 R1 s1 => ?_
  cases b with
  | true => exact a2 g e1 σ I1 H1 Q d env' R1 hm fun v I2 H2 R2 s2 => k v I2 H2 R2 (s1.trans s2)
  | false => exact b2 g e1 σ I1 H1 Q d env' R1 hm fun v I2 H2 R2 s2 => k v I2 H2 R2 (s1.trans s2)
def gp : D → Option Bool
 | .non => some false
 | .bl b => some b
 | .int i => some (i != 0)
 | .str y => if y.length ≤ sizeLine then some ((y.length : Int) != 0) else none
 | .lst xs => some (!xs.isEmpty)
 | .scr xs => some (!xs.isEmpty)
 | .tup xs => some (!xs.isEmpty)
 | _ => none
theorem aq.emp {K : PySem.W.Frag} {cl : String → Option Addr} {I : Hp} {xs : List D} {vs : List V} (r : aq K cl I xs vs) : xs.isEmpty = vs.isEmpty := by
 cases r <;> rfl
theorem mT {I H : Hp} (s : Same I H) {d : D} {b : Bool} {v : V} (h : gp d = some b) (r : Rb Z I H d v) : TruV Z.K v H b := by
 cases d with
 | non => cases h; cases r.non; rfl
 | bl => cases h; cases r.bl; rfl
 | int => cases h; cases r.int; rfl
 | str y =>
  simp only [gp] at h
  split at h
  ·rename_i hl; cases h; cases r.str; exact ⟨hl, rfl⟩
  ·cases h
 | lst xs => cases h; obtain ⟨a, vs, rfl, h1, h2⟩ := r.lst s; exact .inl ⟨vs, SqL.of h1, by rw [h2.emp]⟩
 | scr xs => cases h; obtain ⟨a, vs, rfl, h1, h2⟩ := r.scr s; exact .inl ⟨vs, h1, by rw [h2.emp]⟩
 | tup xs => cases h; obtain ⟨a, vs, rfl, h1, h2⟩ := r.tup s; exact .inr (.inl ⟨vs, h1, by rw [h2.emp]⟩)
 | dic => cases h
 | obj => cases h
 | dcn => cases h
 | typ => cases h
 | adr => cases h
def cb (m : ML) : MT := fun env => (m env).bind fun p => (p.1.get p.2).bind fun d => (gp d).map fun b => (b, p.2)
theorem eN {e : Expr} {m : ML} (h : LV Z e m) (he : ∀ (env : Env) whole, isTrue e env whole = (do let v ← whole; standAt e.pos; holding [v] (truthy v)) := by intro _ _; rfl) : TV Z e (cb m) := by
 obtain ⟨t, h1, h2⟩ := h
 refine ⟨fun σ H Q => t σ H fun x H1 => ∃ k, TruV Z.K x H1 k ∧ Q k H1, fun X i => ?_, fun g env σ I H Q c env' R hm k => ?_⟩
 ·have q := pt_truth (X := X) (h1 X i) (he _)
  rw [i.K] at q
  exact q
 ·unfold cb at hm
  cases e1 : m env with
  | none => rw [e1] at hm; cases hm
  | some p =>
   obtain ⟨l, en⟩ := p
   rw [e1] at hm
   simp only [Option.bind_some] at hm
   cases e2 : l.get en with
   | none => rw [e2] at hm; cases hm
   | some d =>
    rw [e2] at hm
    simp only [Option.bind_some] at hm
    cases e3 : gp d with
    | none => rw [e3] at hm; cases hm
    | some b =>
     rw [e3] at hm
     cases hm
     exact h2 g env σ I H _ l env' R e1 fun v I' H' R' s o => ⟨_, mT R'.sub e3 (Ls.rb R' o e2), k I' H' R' s⟩
def cK (f f' : D → D → Option D) (a b c : ML) : ME := fun env => (a env).bind fun p => (b p.2).bind fun q => (p.1.get q.2).bind fun x => (q.1.get q.2).bind fun y => (f x y).bind fun z => match z with
 | .bl true => (c q.2).bind fun r => (q.1.get r.2).bind fun y => (r.1.get r.2).bind fun w => (f' y w).map fun z => (z, r.2)
 | .bl false => some (.bl false, q.2)
 | _ => none
theorem kg {r r' : R2} {f f' : D → D → Option D} {ta tb tc : TE} {ma mb mc : ML} (hr : be Z r f) (hr' : be Z r' f') (ha : SL Z ta ma) (hb : SL Z tb mb) (hc : SL Z tc mc) : SE Z (tChain r r' ta tb tc) (cK f f' ma mb mc) := by
 intro g env σ I H Q d env' R hm k
 unfold cK at hm
 cases h1 : ma env with
 | none => rw [h1] at hm; cases hm
 | some p =>
  obtain ⟨la, e1⟩ := p
  rw [h1] at hm; simp only [Option.bind_some] at hm
  cases h2 : mb e1 with
  | none => rw [h2] at hm; cases hm
  | some p =>
   obtain ⟨lb, e2⟩ := p
   rw [h2] at hm; simp only [Option.bind_some] at hm
   cases h3 : la.get e2 with
   | none => rw [h3] at hm; cases hm
   | some x =>
    rw [h3] at hm; simp only [Option.bind_some] at hm
    cases h4 : lb.get e2 with
    | none => rw [h4] at hm; cases hm
    | some y =>
     rw [h4] at hm; simp only [Option.bind_some] at hm
     cases h5 : f x y with
     | none => rw [h5] at hm; cases hm
     | some z =>
      rw [h5] at hm; simp only [Option.bind_some] at hm
      refine ha g env σ I H _ la e1 R h1 fun vx I1 H1 R1 s1 o1 => ?_
      refine hb g e1 σ I1 H1 _ lb e2 R1 h2 fun vy I2 H2 R2 s2 o2 => ?_
      refine hr I2 H2 x y z vx vy _ R2.sub (Ls.rb R2 (o1.mono s2) h3) (Ls.rb R2 o2 h4) h5 fun vz rz => ?_
      split at hm
      ·refine ⟨true, rz.bl_inv, ?_⟩
       show tc σ H2 _
       cases h6 : mc e2 with
       | none => rw [h6] at hm; cases hm
       | some p =>
        obtain ⟨lc, e3⟩ := p
        rw [h6] at hm; simp only [Option.bind_some] at hm
        cases h7 : lb.get e3 with
        | none => rw [h7] at hm; cases hm
        | some y' =>
         rw [h7] at hm; simp only [Option.bind_some] at hm
         cases h8 : lc.get e3 with
         | none => rw [h8] at hm; cases hm
         | some w =>
          rw [h8] at hm; simp only [Option.bind_some] at hm
          cases h9 : f' y' w with
          | none => rw [h9] at hm; cases hm
          | some u =>
           rw [h9] at hm; cases hm
           refine hc g e2 σ I2 H2 _ lc env' R2 h6 fun vw I3 H3 R3 s3 o3 => ?_
           exact hr' I3 H3 y' w d vy vw Q R3.sub (Ls.rb R3 (o2.mono s3) h7) (Ls.rb R3 o3 h8) h9 fun vz rz => k vz I3 H3 R3 ((s1.trans s2).trans s3) rz
      ·cases hm
       refine ⟨false, rz.bl_inv, ?_⟩
       show Q (.bl false) H2
       exact k _ I2 H2 R2 (s1.trans s2) .bl
      ·cases hm
theorem j6 {op op' : CmpOp} {r r' : R2} {f f' : D → D → Option D} {a b c : Expr} {ma mb mc : ML} {pos : Pos} (ho : ∀ X, InF Z X → OpR X (compareOp op) r) (ho' : ∀ X, InF Z X → OpR X (compareOp op') r') (hr : be Z r f) (hr' : be Z r' f')
  (ha : LV Z a ma) (hb : LV Z b mb) (hc : LV Z c mc) (hm : lastMarks [op, op'] [b, c] = false := by with_unfolding_all rfl) : TV Z (.Compare a [op, op'] [b, c] pos) (ao (cK f f' ma mb mc)) := by
 obtain ⟨ta, a1, a2⟩ := ha
 obtain ⟨tb, b1, b2⟩ := hb
 obtain ⟨tc, c1, c2⟩ := hc
 refine ⟨_, fun X h => pt_chain (ho X h) (ho' X h) (a1 X h) (b1 X h) (c1 X h) hm, fun g env σ I H Q c env' R hm k => ?_⟩
 exact kg hr hr' a2 b2 c2 g env σ I H _ _ env' R (eW hm) fun v I' H' R' s rv => ⟨c, rv.bl_inv, k I' H' R' s⟩
end
end Q
namespace Q
open PySem L2
section
variable {Z : Zc}
def SA (Z : Zc) (t : TA) (m : En → Option (List D × En)) : Prop := ∀ (g : G) (env : En) (σ : St) (I H : Hp) (Q : List V → Hp → Prop) (ds : List D) (env' : En), SR Z.K Z.cl g env σ I H → m env = some (ds, env') →
 (∀ vs I' H', SR Z.K Z.cl g env' σ I' H' → Same I I' → aq Z.K Z.cl I' ds vs → Q vs H') → t σ H Q
def AE (Z : Zc) (es : List Expr) (m : En → Option (List D × En)) : Prop := ∃ t, (∀ X, InF Z X → PA X es t) ∧ SA Z t m
def aZ : En → Option (List D × En) := fun env => some ([], env)
def ai (a : ME) (r : En → Option (List D × En)) : En → Option (List D × En) := fun env => (a env).bind fun p => (r p.2).map fun q => (p.1 :: q.1, q.2)
theorem bM : AE Z [] aZ := ⟨tNil, fun _ _ => pa_nil, fun g env σ I H Q ds env' R hm k => by cases hm; exact k [] I H R (Same.refl _) .nil⟩
theorem aH {e : Expr} {es : List Expr} {m : ME} {r : En → Option (List D × En)} (h : EV Z e m) (hr : AE Z es r) (hs : ∀ env, starEach (e :: es) env = (false, eval e env) :: starEach es env := by intro _; rfl) : AE Z (e :: es) (ai m r) := by
 obtain ⟨t, h1, h2⟩ := h
 obtain ⟨u, r1, r2⟩ := hr
 refine ⟨_, fun X i => pa_cons (h1 X i) (r1 X i) (hs _), fun g env σ I H Q ds env' R hm k => ?_⟩
 unfold ai at hm
 cases e1 : m env with
 | none => rw [e1] at hm; cases hm
 | some p =>
  rw [e1] at hm
  simp only [Option.bind_some] at hm
  cases e2 : r p.2 with
  | none => rw [e2] at hm; cases hm
  | some q =>
   rw [e2] at hm; cases hm
   refine h2 g env σ I H _ p.1 p.2 R e1 fun v I1 H1 R1 s1 rv => ?_
   exact r2 g p.2 σ I1 H1 _ q.1 q.2 R1 e2 fun vs I2 H2 R2 s2 rs => k (v :: vs) I2 H2 R2 (s1.trans s2) (.cons (rv.mono s2) rs)
def bw (a : En → Option (List D × En)) : ME := fun env => (a env).bind fun p => if p.1.length ≤ sizeLine then some (.lst p.1, p.2) else none
def bK (a : En → Option (List D × En)) : ME := fun env => (a env).bind fun p => if p.1.length ≤ sizeLine then some (.tup p.1, p.2) else none
theorem eI {es : List Expr} {m : En → Option (List D × En)} {pos : Pos} (h : AE Z es m) : EF Z (.List es pos) (bw m) := by
 obtain ⟨t, h1, h2⟩ := h
 refine ⟨_, fun X i => pe_lst (h1 X i), fun g env σ I H Q d env' R hm k => ?_⟩
 unfold bw at hm
 cases e1 : m env with
 | none => rw [e1] at hm; cases hm
 | some p =>
  rw [e1] at hm
  simp only [Option.bind_some] at hm
  split at hm
  ·rename_i hl
   cases hm
   exact h2 g env σ I H _ p.1 p.2 R e1 fun vs I1 H1 R1 s1 rs => ⟨by rw [← rs.length]; exact hl, fun q hq => k q _ I1 _ (R1.alloc hq _) s1 (R1.new hq) (.lst rs)⟩
  ·cases hm
theorem eV {es : List Expr} {m : En → Option (List D × En)} {k : Nat} {pos : Pos} (h : AE Z es m) : EV Z (.Tuple es k pos) (bK m) := by
 obtain ⟨t, h1, h2⟩ := h
 refine ⟨_, fun X i => pe_tup (h1 X i), fun g env σ I H Q d env' R hm k => ?_⟩
 unfold bK at hm
 cases e1 : m env with
 | none => rw [e1] at hm; cases hm
 | some p =>
  rw [e1] at hm
  simp only [Option.bind_some] at hm
  split at hm
  ·rename_i hl
   cases hm
   refine h2 g env σ I H _ p.1 p.2 R e1 fun vs I1 H1 R1 s1 rs => ⟨by rw [← rs.length]; exact hl, fun q hq => ?_⟩
   obtain ⟨R2, s2⟩ := (R1.alloc hq _).freeze (R1.new (o := .tup vs) hq)
   exact k _ _ _ R2 (s1.trans s2) (.tup (SqT.of upd_same) (rs.mono s2))
  ·cases hm
inductive Rbs (Z : Zc) (I H : Hp) : List D → List V → Prop
 | nil : Rbs Z I H [] []
 | cons {d v ds vs} : Rb Z I H d v → Rbs Z I H ds vs → Rbs Z I H (d :: ds) (v :: vs)
def cP : List Ls → En → Option (List D)
 | [], _ => some []
 | l :: ls, env => (l.get env).bind fun d => (cP ls env).map fun ds => d :: ds
inductive fT (Z : Zc) (I : Hp) (σ : St) : List Ls → List V → Prop
 | nil : fT Z I σ [] []
 | cons {l v ls vs} : LsOk Z I σ l v → fT Z I σ ls vs → fT Z I σ (l :: ls) (v :: vs)
theorem gK {g : G} {env : En} {σ : St} {I H : Hp} (R : SR Z.K Z.cl g env σ I H) : ∀ {ls : List Ls} {vs : List V} {ds : List D}, fT Z I σ ls vs → cP ls env = some ds → Rbs Z I H ds vs
 | [], _, ds, .nil, h => by cases h; exact .nil
 | l :: ls, v :: vs, ds, .cons o os, h => by
  unfold cP at h
  cases e : l.get env with
  | none => rw [e] at h; cases h
  | some d =>
   rw [e] at h
   cases e2 : cP ls env with
   | none => rw [e2] at h; cases h
   | some es => rw [e2] at h; cases h; exact .cons (Ls.rb R o e) (gK R os e2)
def SB (Z : Zc) (t : TA) (m : En → Option (List Ls × En)) : Prop := ∀ (g : G) (env : En) (σ : St) (I H : Hp) (Q : List V → Hp → Prop) (ls : List Ls) (env' : En), SR Z.K Z.cl g env σ I H → m env = some (ls, env') →
 (∀ vs I' H', SR Z.K Z.cl g env' σ I' H' → Same I I' → fT Z I' σ ls vs → Q vs H') → t σ H Q
def AL (Z : Zc) (es : List Expr) (m : En → Option (List Ls × En)) : Prop := ∃ t, (∀ X, InF Z X → PA X es t) ∧ SB Z t m
def aJ : En → Option (List Ls × En) := fun env => some ([], env)
def aw (a : ML) (r : En → Option (List Ls × En)) : En → Option (List Ls × En) := fun env => (a env).bind fun p => (r p.2).map fun q => (p.1 :: q.1, q.2)
theorem aW : AL Z [] aJ := ⟨tNil, fun _ _ => pa_nil, fun g env σ I H Q ds env' R hm k => by cases hm; exact k [] I H R (Same.refl _) .nil⟩
theorem aK {e : Expr} {es : List Expr} {m : ML} {r : En → Option (List Ls × En)} (h : LV Z e m) (hr : AL Z es r) (hs : ∀ env, starEach (e :: es) env = (false, eval e env) :: starEach es env := by intro _; rfl) : AL Z (e :: es) (aw m r) := by
 obtain ⟨t, h1, h2⟩ := h
 obtain ⟨u, r1, r2⟩ := hr
 refine ⟨_, fun X i => pa_cons (h1 X i) (r1 X i) (hs _), fun g env σ I H Q ds env' R hm k => ?_⟩
 unfold aw at hm
 cases e1 : m env with
 | none => rw [e1] at hm; cases hm
 | some p =>
  rw [e1] at hm
  simp only [Option.bind_some] at hm
  cases e2 : r p.2 with
  | none => rw [e2] at hm; cases hm
  | some q =>
   rw [e2] at hm; cases hm
   refine h2 g env σ I H _ p.1 p.2 R e1 fun v I1 H1 R1 s1 rv => ?_
   exact r2 g p.2 σ I1 H1 _ q.1 q.2 R1 e2 fun vs I2 H2 R2 s2 rs => k (v :: vs) I2 H2 R2 (s1.trans s2) (.cons (rv.mono s2) rs)
def dg (Z : Zc) (r : List V → Hp → VK → Prop) (f : List D → Option D) : Prop := ∀ (I H : Hp) (xs : List D) (z : D) (vs : List V) (Q : VK), Same I H → Rbs Z I H xs vs → f xs = some z → (∀ vz, Rep Z.K Z.cl I z vz → Q vz H) → r vs H Q
def mBi (f : List D → Option D) (a : En → Option (List Ls × En)) : ME := fun env => (a env).bind fun p => (cP p.1 p.2).bind fun ds => (f ds).map fun z => (z, p.2)
theorem lO {f : List D → Option D} {a : En → Option (List Ls × En)} {env env' : En} {z : D} (h : mBi f a env = some (z, env')) : ∃ ls ds, a env = some (ls, env') ∧ cP ls env' = some ds ∧ f ds = some z := by
 unfold mBi at h
 cases e1 : a env with
 | none => rw [e1] at h; cases h
 | some p =>
  rw [e1] at h
  simp only [Option.bind_some] at h
  cases e2 : cP p.1 p.2 with
  | none => rw [e2] at h; cases h
  | some ds =>
   rw [e2] at h
   simp only [Option.bind_some] at h
   cases e3 : f ds with
   | none => rw [e3] at h; cases h
   | some w => rw [e3] at h; cases h; exact ⟨_, _, rfl, e2, e3⟩
theorem kT {r : List V → Hp → VK → Prop} {f : List D → Option D} {t : TA} {m : En → Option (List Ls × En)} (hr : dg Z r f) (h : SB Z t m) : SE Z (tCB r t) (mBi f m) := by
 intro g env σ I H Q d env' R hm k
 obtain ⟨ls, ds, h1, h2, h3⟩ := lO hm
 exact h g env σ I H _ ls env' R h1 fun vs I1 H1 R1 s1 os => hr I1 H1 ds d vs Q R1.sub (gK R1 os h2) h3 fun vz rz => k vz I1 H1 R1 s1 rz
theorem br {x : Str} {id : String} {r : List V → Hp → VK → Prop} {f : List D → Option D} {e : Expr} {es : List Expr} {m : En → Option (List Ls × En)} {p pos : Pos} (hc : ∀ X, InF Z X → CallR X (.builtin id) r) (hr : dg Z r f) (hg : GlZ Z x) (hm : Z.mg x = none)
  (hv : bootBuiltins x = some (.builtin id)) (ha : AL Z (e :: es) m) (hn : x ≠ "__name__" := by decide) (hdb : (x == ("__debug__" : Str)) = false := by decide)
  (he : ∀ env, starEach (e :: es) env = (false, eval e env) :: starEach es env := by intro _; rfl) (hpl : ∀ env, (backTo pos (starEach es env)).any (·.1) = false := by intro _; rfl) : EV Z (.Call (.Name x p) (e :: es) [] pos) (mBi f m) := by
 obtain ⟨t, h1, h2⟩ := ha
 exact ⟨_, fun X h => pe_callB (hc X h) (dt h hg) (by rw [h.mg]; exact hm) hv (h1 X h) hn hdb (he _) (hpl _), kT hr h2⟩
theorem bH {x : Str} {T : String} {r : List V → Hp → VK → Prop} {f : List D → Option D} {e : Expr} {es : List Expr} {m : En → Option (List Ls × En)} {p pos : Pos} (hc : ∀ X, InF Z X → CallR X (.type T) r) (hr : dg Z r f) (hg : GlZ Z x) (hm : Z.mg x = none)
  (hv : bootBuiltins x = some (.type T)) (ha : AL Z (e :: es) m) (hn : x ≠ "__name__" := by decide) (hdb : (x == ("__debug__" : Str)) = false := by decide)
  (he : ∀ env, starEach (e :: es) env = (false, eval e env) :: starEach es env := by intro _; rfl) (hpl : ∀ env, (backTo pos (starEach es env)).any (·.1) = false := by intro _; rfl) : EV Z (.Call (.Name x p) (e :: es) [] pos) (mBi f m) := by
 obtain ⟨t, h1, h2⟩ := ha
 exact ⟨_, fun X h => pe_callTy (hc X h) (dt h hg) (by rw [h.mg]; exact hm) hv (h1 X h) hn hdb (he _) (hpl _), kT hr h2⟩
def aU : List D → Option D
 | [.str y] => if y.length ≤ sizeLine then some (.int y.length) else none
 | [.lst xs] => some (.int xs.length)
 | [.scr xs] => some (.int xs.length)
 | [.tup xs] => some (.int xs.length)
 | [.dic ks _] => some (.int ks.length)
 | _ => none
theorem Rbs.one {I H : Hp} {d : D} {vs : List V} (h : Rbs Z I H [d] vs) : ∃ v, vs = [v] ∧ Rb Z I H d v := by
 cases h with
 | cons a b => cases b; exact ⟨_, rfl, a⟩
theorem Rbs.two {I H : Hp} {d e : D} {vs : List V} (h : Rbs Z I H [d, e] vs) : ∃ v u, vs = [v, u] ∧ Rb Z I H d v ∧ Rb Z I H e u := by
 cases h with
 | cons a b => cases b with | cons c d => cases d; exact ⟨_, _, rfl, a, c⟩
def kv (K : PySem.W.Frag) : List V → Hp → VK → Prop := fun xs H Q => (∃ x n, xs = [x] ∧ LenV K x H n ∧ Q (.int n) H) ∨ ∃ (a : Addr) (kvs : List (Key × V)), xs = [.ref a] ∧ Rd H a (.dK kvs) ∧ Q (.int kvs.length) H
theorem cx {X : Cx} (h : InF Z X) : CallR X (.builtin "len") (kv Z.K) := by
 rw [← h.K]
 intro pins s σ H xs us Q I r h
 rcases h with h | ⟨a, kvs, rfl, e, q⟩
 ·exact call_len pins s σ H xs us Q I r h
 ·obtain ⟨u, rfl, rx⟩ := vals1 r
  cases (show u = Value.ref a from rx)
  exact d_len I e fun t s' I' => ⟨.int kvs.length, H, I', ⟨t, rfl⟩, q⟩
theorem cu : dg Z (kv Z.K) aU := by
 intro I H xs z vs Q s rs h k
 unfold aU at h
 split at h
 ·split at h
  ·rename_i hl
   cases h
   obtain ⟨v, rfl, r⟩ := rs.one
   cases r.str
   exact .inl ⟨_, _, rfl, ⟨hl, rfl⟩, k _ .int⟩
  ·cases h
 ·cases h
  obtain ⟨v, rfl, r⟩ := rs.one
  obtain ⟨a, us, rfl, h1, h2⟩ := r.lst s
  exact .inl ⟨_, _, rfl, .inl ⟨us, SqL.of h1, rfl⟩, by rw [← h2.length]; exact k _ .int⟩
 ·cases h
  obtain ⟨v, rfl, r⟩ := rs.one
  obtain ⟨a, us, rfl, h1, h2⟩ := r.scr s
  exact .inl ⟨_, _, rfl, .inl ⟨us, h1, rfl⟩, by rw [← h2.length]; exact k _ .int⟩
 ·cases h
  obtain ⟨v, rfl, r⟩ := rs.one
  obtain ⟨a, us, rfl, h1, h2⟩ := r.tup s
  exact .inl ⟨_, _, rfl, .inr ⟨us, h1, rfl⟩, by rw [← h2.length]; exact k _ .int⟩
 ·cases h
  obtain ⟨v, rfl, r⟩ := rs.one
  obtain ⟨a, us, rfl, h1, h2, h3⟩ := r.dic s
  refine .inr ⟨a, _, rfl, h1, ?_⟩
  rw [List.length_zip, ← h2.length, ← h3, Nat.min_self]
  exact k _ .int
 ·cases h
def bP : List D → Option D
 | [.int i] => some (.int i)
 | [.bl b] => some (.int (if b then 1 else 0))
 | _ => none
def kD : List V → Hp → VK → Prop := fun xs H Q => (∃ i, xs = [.int i] ∧ Q (.int i) H) ∨ ∃ k, xs = [.bl k] ∧ Q (.int (if k then 1 else 0)) H
theorem cB : dg Z kD bP := by
 intro I H xs z vs Q s rs h k
 unfold bP at h
 split at h
 ·cases h; obtain ⟨v, rfl, r⟩ := rs.one; cases r.int; exact .inl ⟨_, rfl, k _ .int⟩
 ·cases h; obtain ⟨v, rfl, r⟩ := rs.one; cases r.bl; exact .inr ⟨_, rfl, k _ .int⟩
 ·cases h
theorem cR {X : Cx} : CallR X (.type "int") kD := call_int1
def pK : List D → Option D
 | [.int i] => some (.int (if i < 0 then -i else i))
 | _ => none
def dList : List D → Option D
 | [x] => x.items?.map .lst
 | _ => none
def D.ty : D → Option String
 | .non => some "NoneType"
 | .bl _ => some "bool"
 | .int _ => some "int"
 | .str _ => some "str"
 | .lst _ => some "list"
 | .tup _ => some "tuple"
 | .dic _ _ => some "dict"
 | _ => none
def gv : List D → Option D
 | [x, .typ n] => x.ty.bind fun a => (kitB a n).map .bl
 | _ => none
theorem n8 {I H : Hp} (s : Same I H) {d : D} {a : String} {v : V} (h : d.ty = some a) (r : Rb Z I H d v) : TyX Z.K H v (.type a) := by
 cases d <;> simp only [D.ty] at h <;> first | cases h | skip
 ·cases r.non; exact .base .non
 ·cases r.bl; exact .base (.bl _)
 ·cases r.int; exact .base (.int _)
 ·cases r.str; exact .base (.str _)
 ·obtain ⟨a, us, rfl, h1, _⟩ := r.lst s; exact .base (.lst h1)
 ·obtain ⟨a, us, rfl, (h1 | ⟨o, h1⟩) | ⟨o, its, n, h1, h3, _⟩, _⟩ := r.tup s
  ·exact .base (.tup h1)
  ·exact .fTuple h1
  ·exact .kTuple h1 h3
 ·obtain ⟨a, us, rfl, h1 | ⟨o, h1⟩, _⟩ := r.dic s
  ·exact .base (.dK h1)
  ·exact .fDict h1
theorem mM {X : Cx} (h : InF Z X) : CallR X (.builtin "isinstance") (rIsi Z.K) := by rw [← h.K]; exact call_isi
theorem l8 : dg Z (rIsi Z.K) gv := by
 intro I H xs z vs Q s rs h k
 unfold gv at h
 split at h
 ·rename_i x n
  cases e1 : x.ty with
  | none => rw [e1] at h; cases h
  | some a =>
   rw [e1] at h
   simp only [Option.bind_some] at h
   cases e2 : kitB a n with
   | none => rw [e2] at h; cases h
   | some b =>
    rw [e2] at h; cases h
    obtain ⟨v, u, rfl, r1, r2⟩ := rs.two
    cases r2.typ
    exact ⟨v, _, _, _, b, rfl, .ty n, n8 s e1 r1, kit_ty e2, k _ .bl⟩
 ·cases h
end
end Q
namespace Q
open PySem L2
section
variable {Z : Zc}
def SO (Z : Zc) (t : TO) (m : En → Option (Option Int × En)) : Prop := ∀ (g : G) (env : En) (σ : St) (I H : Hp) (Q : Option Int → Hp → Prop) (o : Option Int) (env' : En), SR Z.K Z.cl g env σ I H → m env = some (o, env') →
 (∀ I' H', SR Z.K Z.cl g env' σ I' H' → Same I I' → Q o H') → t σ H Q
def OV (Z : Zc) (e : Option Expr) (m : En → Option (Option Int × En)) : Prop := ∃ t, (∀ X, InF Z X → PO X e t) ∧ SO Z t m
def cy : En → Option (Option Int × En) := fun env => some (none, env)
def ck (a : ME) : En → Option (Option Int × En) := fun env => (a env).bind fun p => match p.1 with
 | .int i => some (some i, p.2)
 | _ => none
theorem cS : OV Z none cy := ⟨_, fun _ _ => po_none, fun g env σ I H Q o env' R hm k => by cases hm; exact k I H R (Same.refl _)⟩
theorem cW {e : Expr} {m : ME} (h : EV Z e m) : OV Z (some e) (ck m) := by
 obtain ⟨t, h1, h2⟩ := h
 refine ⟨_, fun X i => po_some (h1 X i), fun g env σ I H Q o env' R hm k => ?_⟩
 unfold ck at hm
 cases e1 : m env with
 | none => rw [e1] at hm; cases hm
 | some p =>
  obtain ⟨d, en⟩ := p
  rw [e1] at hm
  simp only [Option.bind_some] at hm
  cases d <;> first | cases hm | skip
  exact h2 g env σ I H _ _ _ R e1 fun v I1 H1 R1 s1 rv => ⟨_, rv.int_inv, k I1 H1 R1 s1⟩
def mSl (f : D → Option Int → Option Int → Option D) (a : ML) (lo hi : En → Option (Option Int × En)) : ME := fun env => (a env).bind fun p => (lo p.2).bind fun q => (hi q.2).bind fun r => (p.1.get r.2).bind fun x => (f x q.1 r.1).map fun z => (z, r.2)
theorem iE {f : D → Option Int → Option Int → Option D} {a : ML} {lo hi : En → Option (Option Int × En)} {env env' : En} {z : D} (h : mSl f a lo hi env = some (z, env')) :
  ∃ la e1 l e2 u x, a env = some (la, e1) ∧ lo e1 = some (l, e2) ∧ hi e2 = some (u, env') ∧ la.get env' = some x ∧ f x l u = some z := by
 unfold mSl at h
 cases h1 : a env with
 | none => rw [h1] at h; cases h
 | some p =>
  rw [h1] at h; simp only [Option.bind_some] at h
  cases h2 : lo p.2 with
  | none => rw [h2] at h; cases h
  | some q =>
   rw [h2] at h; simp only [Option.bind_some] at h
   cases h3 : hi q.2 with
   | none => rw [h3] at h; cases h
   | some r =>
    rw [h3] at h; simp only [Option.bind_some] at h
    cases h4 : p.1.get r.2 with
    | none => rw [h4] at h; cases h
    | some x =>
     rw [h4] at h; simp only [Option.bind_some] at h
     cases h5 : f x q.1 r.1 with
     | none => rw [h5] at h; cases h
     | some w => rw [h5] at h; cases h; exact ⟨_, _, _, _, _, _, rfl, h2, h3, h4, h5⟩
def d7 : D → Option Int → Option Int → Option D
 | .str z, lo, hi => if z.length ≤ sizeLine then some (.str (cutS z lo hi)) else none
 | _, _, _ => none
theorem ef {e : Expr} {lo hi : Option Expr} {m : ML} {ml mh : En → Option (Option Int × En)} {p2 pos : Pos} (h : LV Z e m) (hl : OV Z lo ml) (hh : OV Z hi mh) : EV Z (.Subscript e (.Slice lo hi none p2) pos) (mSl d7 m ml mh) := by
 obtain ⟨t, h1, h2⟩ := h
 obtain ⟨tl, l1, l2⟩ := hl
 obtain ⟨tu, u1, u2⟩ := hh
 refine ⟨_, fun X i => pe_slice sl_str (h1 X i) (l1 X i) (u1 X i), fun g env σ I H Q d env' R hm k => ?_⟩
 obtain ⟨la, e1, l, e2, u, x, q1, q2, q3, q4, q5⟩ := iE hm
 refine h2 g env σ I H _ la e1 R q1 fun v I1 H1 R1 s1 o1 => l2 g e1 σ I1 H1 _ l e2 R1 q2 fun I2 H2 R2 s2 => u2 g e2 σ I2 H2 _ u env' R2 q3 fun I3 H3 R3 s3 => ?_
 have rb := Ls.rb R3 (o1.mono (s2.trans s3)) q4
 unfold d7 at q5
 split at q5
 ·split at q5
  ·rename_i hz
   cases q5
   cases rb.str
   exact ⟨_, rfl, hz, k _ I3 H3 R3 ((s1.trans s2).trans s3) .str⟩
  ·cases q5
 ·cases q5
def cutD (xs : List D) (lo hi : Option Int) : List D := (xs.drop (HT.sIx xs.length 0 lo)).take (HT.sIx xs.length xs.length hi - HT.sIx xs.length 0 lo)
theorem aq.drop {K : PySem.W.Frag} {cl : String → Option Addr} {I : Hp} : ∀ {xs : List D} {vs : List V} (n : Nat), aq K cl I xs vs → aq K cl I (xs.drop n) (vs.drop n)
 | _, _, 0, r => r
 | _, _, n + 1, .nil => .nil
 | _, _, n + 1, .cons _ t => aq.drop n t
theorem aq.take {K : PySem.W.Frag} {cl : String → Option Addr} {I : Hp} : ∀ {xs : List D} {vs : List V} (n : Nat), aq K cl I xs vs → aq K cl I (xs.take n) (vs.take n)
 | _, _, 0, _ => .nil
 | _, _, n + 1, .nil => .nil
 | _, _, n + 1, .cons r t => .cons r (aq.take n t)
theorem aq.cut {K : PySem.W.Frag} {cl : String → Option Addr} {I : Hp} {xs : List D} {vs : List V} {lo hi : Option Int} (r : aq K cl I xs vs) : aq K cl I (cutD xs lo hi) (cutV vs lo hi) := by
 unfold cutD cutV
 rw [← r.length]
 exact (r.drop _).take _
def hU : D → Option Int → Option Int → Option D
 | .lst xs, lo, hi => some (.lst (cutD xs lo hi))
 | .scr xs, lo, hi => some (.lst (cutD xs lo hi))
 | _, _, _ => none
theorem m9 {e : Expr} {lo hi : Option Expr} {m : ML} {ml mh : En → Option (Option Int × En)} {p2 pos : Pos} (h : LV Z e m) (hl : OV Z lo ml) (hh : OV Z hi mh) : EF Z (.Subscript e (.Slice lo hi none p2) pos) (mSl hU m ml mh) := by
 obtain ⟨t, h1, h2⟩ := h
 obtain ⟨tl, l1, l2⟩ := hl
 obtain ⟨tu, u1, u2⟩ := hh
 refine ⟨tSl (rSlL Z.K) t tl tu, fun X i => by have q := pe_slice (X := X) sl_list (h1 X i) (l1 X i) (u1 X i) (pos := pos) (p2 := p2); rw [i.K] at q; exact q, fun g env σ I H Q d env' R hm k => ?_⟩
 obtain ⟨la, e1, l, e2, u, x, q1, q2, q3, q4, q5⟩ := iE hm
 refine h2 g env σ I H _ la e1 R q1 fun v I1 H1 R1 s1 o1 => l2 g e1 σ I1 H1 _ l e2 R1 q2 fun I2 H2 R2 s2 => u2 g e2 σ I2 H2 _ u env' R2 q3 fun I3 H3 R3 s3 => ?_
 have rb := Ls.rb R3 (o1.mono (s2.trans s3)) q4
 unfold hU at q5
 split at q5
 ·cases q5
  obtain ⟨a, vs, rfl, ha, ra⟩ := rb.lst R3.sub
  exact ⟨a, vs, rfl, SqL.of ha, fun p hp => k p _ I3 _ (R3.alloc hp _) ((s1.trans s2).trans s3) (R3.new hp) (.lst ra.cut)⟩
 ·cases q5
  obtain ⟨a, vs, rfl, ha, ra⟩ := rb.scr R3.sub
  exact ⟨a, vs, rfl, ha, fun p hp => k p _ I3 _ (R3.alloc hp _) ((s1.trans s2).trans s3) (R3.new hp) (.lst ra.cut)⟩
 ·cases q5
def nO (ks : List Str) (xs : List D) (f : Str) : Option D := (ks.zip xs).lookup f
def gZ (c : String) (f : Str) : D → Option D
 | .obj c' ks xs => if c' = c then nO ks xs f else none
 | _ => none
def o7 (c : String) (f : Str) (a : ML) : ME := fun env => (a env).bind fun p => (p.1.get p.2).bind fun x => (gZ c f x).map fun z => (z, p.2)
def aY : MS := fun env => some (.nx env)
theorem bo : BV Z [] aY := ⟨_, fun _ _ => pss_nil, fun g env σ I H D fl R hm k => by cases hm; exact k σ I H R (Same.refl _)⟩
def av (a b : MS) : MS := fun env => (a env).bind fun fl => match fl with
 | .nx e => b e
 | fl => some fl
theorem au {s : Stmt} {r : List Stmt} {a b : MS} (ha : SV Z s a) (hb : BV Z r b) : BV Z (s :: r) (av a b) := by
 obtain ⟨t, h1, h2⟩ := ha
 obtain ⟨u, r1, r2⟩ := hb
 refine ⟨_, fun X i => pss_cons (h1 X i) (r1 X i), fun g env σ I H D fl R hm k => ?_⟩
 unfold av at hm
 cases e1 : a env with
 | none => rw [e1] at hm; cases hm
 | some f1 =>
  rw [e1] at hm
  simp only [Option.bind_some] at hm
  refine h2 g env σ I H _ f1 R e1 ?_
  cases f1 with
  | nx e => exact fun σ' I' H' R' s' => r2 g e σ' I' H' D fl R' hm (k.mono s')
  | bk e => cases hm; exact k
  | ct e => cases hm; exact k
  | ret md d e => cases hm; exact k
theorem az {s : Stmt} {a : MS} (ha : SV Z s a) : BV Z [s] a := by
 obtain ⟨t, h1, h2⟩ := ha
 exact ⟨t, fun X i => pss_one (h1 X i), h2⟩
def ng : MS := fun env => some (.bk env)
def mW : MS := fun env => some (.ct env)
def kU (a : ME) : MS := fun env => (a env).map fun p => .nx p.2
def aN (a : ME) : MS := fun env => (a env).map fun p => .ret .imm p.1 p.2
theorem aL {e : Expr} {m : ME} {pos : Pos} (h : EV Z e m) : SV Z (.Return (some e) pos) (aN m) := by
 obtain ⟨t, h1, h2⟩ := h
 refine ⟨_, fun X i => ps_ret (h1 X i), fun g env σ I H D fl R hm k => ?_⟩
 unfold aN at hm
 cases e1 : m env with
 | none => rw [e1] at hm; cases hm
 | some p => rw [e1] at hm; cases hm; exact h2 g env σ I H _ p.1 p.2 R e1 fun v I1 H1 R1 s1 rv => k σ I1 H1 v R1 s1 rv
def fO (a : ME) : MS := fun env => (a env).map fun p => .ret .new p.1 p.2
theorem lI {e : Expr} {m : ME} {pos : Pos} (h : EF Z e m) : SV Z (.Return (some e) pos) (fO m) := by
 obtain ⟨t, h1, h2⟩ := h
 refine ⟨_, fun X i => ps_ret (h1 X i), fun g env σ I H D fl R hm k => ?_⟩
 unfold fO at hm
 cases e1 : m env with
 | none => rw [e1] at hm; cases hm
 | some p => rw [e1] at hm; cases hm; exact h2 g env σ I H _ p.1 p.2 R e1 fun q o I1 H1 R1 s1 n r => k σ I1 H1 _ R1 s1 ⟨q, o, rfl, n, r⟩
def dR (i : Nat) : MS := fun env => match env[i]? with
 | some (.own d) => some (.ret .new d (env.set i .un))
 | some (.imm d) => some (.ret .imm d env)
 | _ => none
theorem iS {i : Nat} {x : Str} {p pos : Pos} (hN : Z.N[i]? = some x) (hv : Vis Z.sc x) (hd : (x == ("__debug__" : Str)) = false := by decide) (hcd : (x == ("__classdict__" : Str)) = false := by decide) : SV Z (.Return (some (.Name x p)) pos) (dR i) := by
 refine ⟨tRet (tVar i), fun X h => ps_ret (pe_var (by rw [h.N]; exact hN) (cD h hv) hd hcd), fun g env σ I H D fl R hm k => ?_⟩
 unfold dR at hm
 split at hm
 ·rename_i d hs
  cases hm
  obtain ⟨y, hx, a, o, rfl, h1, h2, h3, h4⟩ := R.at_ i _ hs
  have R1 : SR Z.K Z.cl g (env.set i .un) σ I H := R.reslot (s' := .un) hs (fun _ _ _ => trivial) (fun z => by cases z) (fun z => by cases z)
  have n : New g (env.set i .un) σ I H a o := ⟨h1, h3, h4, fun j s hj ht => by
   rcases bg hj with ⟨rfl, _, rfl⟩ | ⟨ne, hj⟩
   ·cases ht
   ·exact fun z => R.dis i j _ s a (Ne.symm ne) hs hj rfl ht hx z, fun o' hX => (R.ex a o' hX).2.2 i _ hs rfl hx⟩
  exact ⟨.ref a, hx, k σ I H _ R1 (Same.refl _) ⟨a, o, rfl, n, h2⟩⟩
 ·rename_i d hs
  cases hm
  obtain ⟨y, hx, v, rfl, r⟩ := R.at_ i _ hs
  exact ⟨v, hx, k σ I H v R (Same.refl _) r⟩
 ·cases hm
def bj (c : MT) (a b : MS) : MS := fun env => (c env).bind fun p => if p.1 then a p.2 else b p.2
theorem bu {c : Expr} {a b : List Stmt} {mc : MT} {ma mb : MS} {pos : Pos} (hc : TV Z c mc) (ha : BV Z a ma) (hb : BV Z b mb) : SV Z (.If c a b pos) (bj mc ma mb) := by
 obtain ⟨tc, c1, c2⟩ := hc
 obtain ⟨ta, a1, a2⟩ := ha
 obtain ⟨tb, b1, b2⟩ := hb
 refine ⟨_, fun X h => ps_if (c1 X h) (a1 X h) (b1 X h), fun g env σ I H D fl R hm k => ?_⟩
 unfold bj at hm
 cases e : mc env with
 | none => rw [e] at hm; cases hm
 | some p =>
  obtain ⟨b, e1⟩ := p
  rw [e] at hm
  simp only [Option.bind_some] at hm
  refine c2 g env σ I H _ b e1 R e fun I1 H1 R1 s1 => ?_
  cases b with
  | true => exact a2 g e1 σ I1 H1 D fl R1 hm (k.mono s1)
  | false => exact b2 g e1 σ I1 H1 D fl R1 hm (k.mono s1)
def eO (Z : Zc) (x : Str) : Prop := (Z.all = true ∧ Loc Z.sc x) ∨ Z.sc.names.lookup x = some .local
theorem dU {X : Cx} {x : Str} (h : InF Z X) (hv : eO Z x) : Loc X.env.scope x ∧ (X.fn x = true ∨ X.env.scope.names.lookup x = some .local) := by
 rw [h.sc]
 rcases hv with ⟨h1, h2⟩ | h1
 ·exact ⟨h2, .inl (h.fn h1 x)⟩
 ·exact ⟨.inl h1, .inr h1⟩
def aP (i : Nat) (a : ME) : MS := fun env => (a env).bind fun p => if i < p.2.length then some (.nx (p.2.set i (.imm p.1))) else none
def ek (i : Nat) (a : ME) : MS := fun env => (a env).bind fun p => if i < p.2.length then some (.nx (p.2.set i (.own p.1))) else none
theorem mS {i : Nat} {x : Str} {e : Expr} {m : ME} {p pos : Pos} (hN : Z.N[i]? = some x) (hv : eO Z x) (h : EV Z e m) (hs : ∀ env, swapsWithSole [.Name x p] e pos.line env = pure false := by intro _; rfl) (hw : ∀ env, swappedStores [.Name x p] e env = pure none := by intro _; rfl)
  (h1 : ∀ env, (assignEach [.Name x p] env).map (·.2) = [assign (.Name x p) env] := by intro _; rfl) : SV Z (.Assign [.Name x p] e pos) (aP i m) := by
 obtain ⟨t, q1, q2⟩ := h
 refine ⟨_, fun X k => ps_asg (q1 X k) (pg_name k.nd (by rw [k.N]; exact hN) (dU k hv).1 (dU k hv).2) (hs _) (hw _) (h1 _), fun g env σ I H D fl R hm k => ?_⟩
 unfold aP at hm
 cases e1 : m env with
 | none => rw [e1] at hm; cases hm
 | some r =>
  rw [e1] at hm
  simp only [Option.bind_some] at hm
  split at hm
  ·rename_i hi
   cases hm
   exact q2 g env σ I H _ r.1 r.2 R e1 fun v I1 H1 R1 s1 rv => k _ I1 H1 (R1.setImm (by rw [← R1.len]; exact hi) rv) s1
  ·cases hm
theorem k9 {i : Nat} {x : Str} {e : Expr} {m : ME} {p pos : Pos} (hN : Z.N[i]? = some x) (hv : eO Z x) (h : EF Z e m) (hs : ∀ env, swapsWithSole [.Name x p] e pos.line env = pure false := by intro _; rfl) (hw : ∀ env, swappedStores [.Name x p] e env = pure none := by intro _; rfl)
  (h1 : ∀ env, (assignEach [.Name x p] env).map (·.2) = [assign (.Name x p) env] := by intro _; rfl) : SV Z (.Assign [.Name x p] e pos) (ek i m) := by
 obtain ⟨t, q1, q2⟩ := h
 refine ⟨_, fun X k => ps_asg (q1 X k) (pg_name k.nd (by rw [k.N]; exact hN) (dU k hv).1 (dU k hv).2) (hs _) (hw _) (h1 _), fun g env σ I H D fl R hm k => ?_⟩
 unfold ek at hm
 cases e1 : m env with
 | none => rw [e1] at hm; cases hm
 | some r =>
  rw [e1] at hm
  simp only [Option.bind_some] at hm
  split at hm
  ·rename_i hi
   cases hm
   exact q2 g env σ I H _ r.1 r.2 R e1 fun a o I1 H1 R1 s1 n ro => k _ I1 H1 (R1.setOwn (by rw [← R1.len]; exact hi) n ro) s1
  ·cases hm
def mR (f : Int → Int → Int) (i : Nat) (a : ME) : MS := fun env => match env[i]? with
 | some (.imm (.int x)) => (a env).bind fun p => match p.1 with
  | .int y => if i < p.2.length then some (.nx (p.2.set i (.imm (.int (f x y))))) else none
  | _ => none
 | _ => none
def bF (env : En) (i : Nat) : Option (List D) := (env[i]?).bind fun s => (s.own?).bind fun d => match d with
 | .lst xs => some xs
 | _ => none
theorem jX {env : En} {i : Nat} {xs : List D} (h : bF env i = some xs) : ∃ s, env[i]? = some s ∧ s.own? = some (.lst xs) := by
 unfold bF at h
 cases e2 : env[i]? with
 | none => rw [e2] at h; cases h
 | some s =>
  rw [e2] at h; simp only [Option.bind_some] at h
  cases e3 : s.own? with
  | none => rw [e3] at h; cases h
  | some d =>
   rw [e3] at h; simp only [Option.bind_some] at h
   cases d <;> first | (cases h; exact ⟨s, rfl, e3⟩) | cases h
theorem eE {g : G} {env : En} {σ : St} {I H : Hp} {i : Nat} {xs : List D} (R : SR Z.K Z.cl g env σ I H) (h : bF env i = some xs) :
  ∃ s a vs, env[i]? = some s ∧ s.own? = some (.lst xs) ∧ σ[i]? = some (some (.ref a)) ∧ H a = some (.lst vs) ∧ aq Z.K Z.cl I xs vs := by
 obtain ⟨s, h1, h2⟩ := jX h
 obtain ⟨a, o, h3, h4, h5, h6⟩ := dE R h1 h2
 obtain ⟨vs, rfl, r⟩ := h5.lst_inv
 exact ⟨s, a, vs, h1, h2, h3, h4, r⟩
def aI (env : En) (i : Nat) (d : D) : En := match env[i]? with
 | some s => env.set i (s.put d)
 | none => env
def eG (i : Nat) (a : ME) : MS := fun env => (bF env i).bind fun _ => (a env).bind fun p => (bF p.2 i).bind fun xs =>
 if xs.length < sizeLine then some (.nx (aI p.2 i (.lst (xs ++ [p.1])))) else none
theorem oE {g : G} {env : En} {σ : St} {I H : Hp} {i : Nat} {d : D} (R : SR Z.K Z.cl g env σ I H) (h : env[i]?.bind Sl.rd = some d) : ∃ v, σ[i]? = some (some v) := by
 cases e : env[i]? with
 | none => rw [e] at h; cases h
 | some s =>
  rw [e] at h
  obtain ⟨x, hx, q⟩ := R.at_ i _ e
  cases s with
  | un => cases h
  | imm d => obtain ⟨v, rfl, _⟩ := q; exact ⟨_, hx⟩
  | bor d => obtain ⟨v, rfl, _⟩ := q; exact ⟨_, hx⟩
  | own d => obtain ⟨v, o, rfl, _⟩ := q; exact ⟨_, hx⟩
  | lck d => obtain ⟨v, o, rfl, _⟩ := q; exact ⟨_, hx⟩
  | io j d => obtain ⟨v, o, rfl, _⟩ := q; exact ⟨_, hx⟩
theorem gI {i : Nat} {x : Str} {e : Expr} {m : ME} {p p1 cpos pos : Pos} (hN : Z.N[i]? = some x) (hv : Vis Z.sc x) (h : EV Z e m) (hd : (x == ("__debug__" : Str)) = false := by decide) (hcd : (x == ("__classdict__" : Str)) = false := by decide)
  (hbase : ∀ env, attributeBase (.Name x p) "append" env (eval (.Name x p) env) = eval (.Name x p) env := by intro _; rfl)
  (hfew : ∀ env, ((backTo cpos (starEach [e] env)).all (fun x => !x.1) && (backToKw cpos (keywordEach [] env)).all (fun x => x.1.isSome)
   && decide (([e] : List Expr).length + ([] : List Keyword).length + (if ([] : List Keyword).isEmpty then 0 else 1) < 30)) = true := by intro _; rfl)
  (hline : (p1.endLine == cpos.line) = true := by rfl) (hs : ∀ env, starEach [e] env = (false, eval e env) :: starEach [] env := by intro _; rfl) (hplain : ∀ env, (backTo cpos (starEach [] env)).any (·.1) = false := by intro _; rfl)
  (hsw : ∀ env, swapsWith (.Call (.Attribute (.Name x p) "append" p1) [e] [] cpos) none pos.line env = pure false := by intro _; rfl) :
  SV Z (.Expr (.Call (.Attribute (.Name x p) "append" p1) [e] [] cpos) pos) (eG i m) := by
 obtain ⟨t, q1, q2⟩ := h
 refine ⟨tDrop (tBM Z.K "list" rAppend (tVar i) (tCons t tNil)), fun X k => ?_, fun g env σ I H D fl R hm k => ?_⟩
 ·have q := pe_bm (X := X) (name := "append") (apos := p1) (cpos := cpos) PySem.F.plainAttrs_list PySem.F.slot_list_append PySem.F.type_list_append mt_append (pe_var (by rw [k.N]; exact hN) (cD k hv) hd hcd) (pa_cons (q1 X k) pa_nil (hs _)) (hbase _) (hfew _) hline (hs _) (hplain _)
  rw [k.K] at q
  exact ps_expr q (hsw _)
 ·unfold eG at hm
  cases e0 : bF env i with
  | none => rw [e0] at hm; cases hm
  | some d0 =>
   rw [e0] at hm; simp only [Option.bind_some] at hm
   cases e1 : m env with
   | none => rw [e1] at hm; cases hm
   | some r =>
    obtain ⟨y, en⟩ := r
    rw [e1] at hm; simp only [Option.bind_some] at hm
    cases e2 : bF en i with
    | none => rw [e2] at hm; cases hm
    | some xs =>
     rw [e2] at hm; simp only [Option.bind_some] at hm
     split at hm
     ·rename_i hlen
      cases hm
      obtain ⟨s0, a0, vs0, h1, h2, h3, h4, _⟩ := eE R e0
      refine ⟨.ref a0, h3, .inl ⟨rfl, _, SqL.of h4⟩, ?_⟩
      refine q2 g env σ I H _ y en R e1 fun v I1 H1 R1 s1 rv => ?_
      obtain ⟨s, a, vs, h5, h6, h7, h8, h9⟩ := eE R1 e2
      rw [h3] at h7
      cases h7
      refine ⟨a0, vs, v, rfl, rfl, h8, by rw [← h9.length]; exact hlen, ?_⟩
      have R2 := R1.mutate h5 h6 h3 (.lst (h9.append (.cons rv .nil)))
      have e5 : aI en i (.lst (xs ++ [y])) = en.set i (s.put (.lst (xs ++ [y]))) := by unfold aI; rw [h5]
      rw [e5] at k
      exact k σ I1 _ R2 s1
     ·cases hm
def fX (i : Nat) (e j : ME) : MS := fun env => (e env).bind fun p => (bF p.2 i).bind fun _ => (j p.2).bind fun q => (bF q.2 i).bind fun xs => match q.1 with
 | .int n => (ixN xs.length n).map fun c => .nx (aI q.2 i (.lst (xs.set c p.1)))
 | _ => none
theorem lA {i : Nat} {x : Str} {e j : Expr} {me mj : ME} {p p1 pos : Pos} (hN : Z.N[i]? = some x) (hv : Vis Z.sc x) (he : EV Z e me) (hj : EV Z j mj) (hd : (x == ("__debug__" : Str)) = false := by decide) (hcd : (x == ("__classdict__" : Str)) = false := by decide)
  (hs : ∀ env, swapsWithSole [.Subscript (.Name x p) j p1] e pos.line env = pure false := by intro _; rfl) (hw : ∀ env, swappedStores [.Subscript (.Name x p) j p1] e env = pure none := by intro _; rfl)
  (h1 : ∀ env, (assignEach [.Subscript (.Name x p) j p1] env).map (·.2) = [assign (.Subscript (.Name x p) j p1) env] := by intro _; rfl)
  (ha : ∀ env v, assign (.Subscript (.Name x p) j p1) env v = (do
   let ov ← holding [v] (eval (.Name x p) env)
   let iv ← holding [v, ov] (eval j env)
   standAt p1
   holding [v, ov, iv] (setItem ov iv v)
   release [v, ov, iv] []) := by intro _ _; rfl) :
  SV Z (.Assign [.Subscript (.Name x p) j p1] e pos) (fX i me mj) := by
 obtain ⟨t, q1, q2⟩ := he
 obtain ⟨u, j1, j2⟩ := hj
 refine ⟨tAsg t (gSub (tVar i) u rSetL), fun X k => ps_asg (q1 X k) (pg_sub (pe_var (by rw [k.N]; exact hN) (cD k hv) hd hcd) (j1 X k) set_list (ha _)) (hs _) (hw _) (h1 _), fun g env σ I H D fl R hm k => ?_⟩
 unfold fX at hm
 cases e1 : me env with
 | none => rw [e1] at hm; cases hm
 | some r =>
  obtain ⟨y, en⟩ := r
  rw [e1] at hm; simp only [Option.bind_some] at hm
  cases e2 : bF en i with
  | none => rw [e2] at hm; cases hm
  | some xs0 =>
   rw [e2] at hm; simp only [Option.bind_some] at hm
   cases e3 : mj en with
   | none => rw [e3] at hm; cases hm
   | some r =>
    obtain ⟨n, en2⟩ := r
    rw [e3] at hm; simp only [Option.bind_some] at hm
    cases e4 : bF en2 i with
    | none => rw [e4] at hm; cases hm
    | some xs =>
     rw [e4] at hm; simp only [Option.bind_some] at hm
     cases n <;> first | cases hm | skip
     rename_i n
     dsimp only at hm
     cases e5 : ixN xs.length n with
     | none => rw [e5] at hm; cases hm
     | some c =>
      rw [e5] at hm; cases hm
      refine q2 g env σ I H _ y en R e1 fun v I1 H1 R1 s1 rv => ?_
      obtain ⟨s0, a0, vs0, h1, h2, h3, h4, _⟩ := eE R1 e2
      refine ⟨.ref a0, h3, ?_⟩
      refine j2 g en σ I1 H1 _ _ en2 R1 e3 fun w I2 H2 R2 s2 rw' => ?_
      obtain ⟨s, a, vs, h5, h6, h7, h8, h9⟩ := eE R2 e4
      rw [h3] at h7
      cases h7
      refine ⟨a0, vs, n, c, rfl, rw'.int_inv, h8, by rw [← h9.length]; exact e5, ?_⟩
      have R3 := R2.mutate h5 h6 h3 (.lst (aq.set c (rv.mono s2) h9))
      have e6 : aI en2 i (.lst (xs.set c y)) = en2.set i (s.put (.lst (xs.set c y))) := by unfold aI; rw [h5]
      dsimp only at k
      rw [e6] at k
      exact k σ I2 _ R3 (s1.trans s2)
end
end Q
namespace Q
open PySem L2
section
variable {Z : Zc}
theorem fq {σ : St} {i : Nat} {x : Option V} : ∀ {vs : List Nat}, i ∈ vs → wipe (σ.set i x) vs = wipe σ vs
 | [], h => by cases h
 | v :: vs, h => by
  show (wipe (σ.set i x) vs).set v none = (wipe σ vs).set v none
  by_cases e : i ∈ vs
  ·rw [fq e]
  ·have : i = v := by
    rcases List.mem_cons.mp h with h | h
    ·exact h
    ·exact absurd h e
   subst this
   have c : ∀ (ws : List Nat) (τ : St), i ∉ ws → wipe (τ.set i x) ws = (wipe τ ws).set i x := by
    intro ws
    induction ws with
    | nil => intro τ _; rfl
    | cons w ws ih =>
     intro τ hw
     have h1 : i ≠ w := fun z => hw (by rw [z]; exact List.mem_cons_self)
     have h2 : i ∉ ws := fun z => hw (List.mem_cons_of_mem _ z)
     show (wipe (τ.set i x) ws).set w none = ((wipe τ ws).set w none).set i x
     rw [ih τ h2, List.set_comm _ _ h1]
   rw [c vs σ e, List.set_set]
def GV (Z : Zc) (tg : Expr) (ix : List Nat) (f : D → En → Option En) : Prop := ∃ gt, (∀ X, InF Z X → PG X tg gt) ∧ ∀ (g : G) (env : En) (σ : St) (I H : Hp) (d : D) (v : V) (Q : St → Hp → Prop) (env' : En), SR Z.K Z.cl g env σ I H → Rep Z.K Z.cl I d v → f d env = some env' →
 (∀ σ', SR Z.K Z.cl g env' σ' I H → (∀ vs, (∀ i ∈ ix, i ∈ vs) → wipe σ' vs = wipe σ vs) → Q σ' H) → gt v σ H Q
def gN (i : Nat) : D → En → Option En := fun d env => if i < env.length then some (env.set i (.imm d)) else none
theorem l0 {i : Nat} {x : Str} {p : Pos} (hN : Z.N[i]? = some x) (hv : eO Z x) : GV Z (.Name x p) [i] (gN i) := by
 refine ⟨gName i, fun X k => pg_name k.nd (by rw [k.N]; exact hN) (dU k hv).1 (dU k hv).2, fun g env σ I H d v Q env' R r h k => ?_⟩
 unfold gN at h
 split at h
 ·rename_i hi
  cases h
  exact k _ (R.setImm (by rw [← R.len]; exact hi) r) fun vs hvs => fq (hvs i (by simp))
 ·cases h
def nI : List D → En → Option En := fun ds env => match ds with
 | [] => some env
 | _ => none
def l9 (f : D → En → Option En) (r : List D → En → Option En) : List D → En → Option En := fun ds env => match ds with
 | d :: ds => (f d env).bind fun e => r ds e
 | _ => none
def gT (n : Nat) (r : List D → En → Option En) : D → En → Option En := fun d env => match d with
 | .tup xs => if xs.length = n then r xs env else none
 | _ => none
def kA (gf : D → En → Option En) (a : ME) : MS := fun env => (a env).bind fun p => (gf p.1 p.2).map .nx
def WD (Z : Zc) (J : It) (ds : List D) (I : Hp) : Prop := ∃ (Gd : Hp → Prop) (Y : Nat → Hp → V → Hp → Prop), Walk J ds.length Gd Y ∧ (∀ I' H', Same I I' → Same I' H' → Gd H') ∧
 ∀ (i : Nat) (d : D) (g : G) (env : En) (σ : St) (I' H : Hp) (x : V) (H' : Hp), ds[i]? = some d → Same I I' → SR Z.K Z.cl g env σ I' H → Y i H x H' → ∃ I2, SR Z.K Z.cl g env σ I2 H' ∧ Same I' I2 ∧ Rep Z.K Z.cl I2 d x
abbrev MI := En → Option (List D × En)
def SI (Z : Zc) (wi : TI) (m : MI) : Prop := ∀ (g : G) (env : En) (σ : St) (I H : Hp) (R : It → Hp → Prop) (ds : List D) (env' : En), SR Z.K Z.cl g env σ I H → m env = some (ds, env') →
 (∀ J I' H', SR Z.K Z.cl g env' σ I' H' → Same I I' → WD Z J ds I' → R J H') → wi σ H R
def IV (Z : Zc) (tg e : Expr) (m : MI) : Prop := ∃ wi, (∀ X, InF Z X → PI X tg e wi) ∧ SI Z wi m
theorem kE {X : Cx} {tg e : Expr} {w1 w2 : TI} (h1 : PI X tg e w1) (h2 : PI X tg e w2) : PI X tg e (fun σ H R => w1 σ H R ∨ w2 σ H R) :=
 ⟨fun pins s σ H R I h => h.elim (h1.run pins s σ H R I) (h2.run pins s σ H R I)⟩
def signs (z : Str) : List D := z.cps.toList.map fun c => .str ⟨#[c]⟩
def D.walk? : D → Option (List D)
 | .lst xs => some xs
 | .scr xs => some xs
 | .tup xs => some xs
 | .str z => some (signs z)
 | _ => none
def df (a : ME) : MI := fun env => (a env).bind fun p => (p.1.walk?).map fun xs => (xs, p.2)
theorem iY {a : Addr} {xs : List D} {vs : List V} {I : Hp} (h : SqL Z.K I a vs) (r : aq Z.K Z.cl I xs vs) : WD Z (Itl Z.K a) xs I := by
 refine ⟨_, _, by rw [r.length]; exact walk_list, fun I' H' s s' => (s.trans s').seq h, fun i d g env σ I' H x H' hd s R y => ?_⟩
 obtain ⟨rfl, hx⟩ := y
 obtain ⟨v, hv, rv⟩ := r.get hd
 rw [hv] at hx; cases hx
 exact ⟨I', R, Same.refl _, rv.mono s⟩
theorem nj {a : Addr} {xs : List D} {vs : List V} {I : Hp} (h : SqT Z.K I a vs) (r : aq Z.K Z.cl I xs vs) : WD Z (Itt Z.K a) xs I := by
 refine ⟨_, _, by rw [r.length]; exact walk_tup, fun I' H' s s' => SqT.mono (s.trans s') h, fun i d g env σ I' H x H' hd s R y => ?_⟩
 obtain ⟨rfl, hx⟩ := y
 obtain ⟨v, hv, rv⟩ := r.get hd
 rw [hv] at hx; cases hx
 exact ⟨I', R, Same.refl _, rv.mono s⟩
theorem mJ {z : Str} {I : Hp} : WD Z (Its z) (signs z) I := by
 refine ⟨_, _, by unfold signs; rw [List.length_map, Array.length_toList]; exact walk_str, fun I' H' s s' => trivial, fun i d g env σ I' H x H' hd s R y => ?_⟩
 obtain ⟨rfl, c, hc, rfl⟩ := y
 unfold signs at hd
 rw [List.getElem?_map, Array.getElem?_toList, hc] at hd
 cases hd
 exact ⟨I', R, Same.refl _, .str⟩
theorem jG {tg e : Expr} {m : ME} (h : EV Z e m) : IV Z tg e (df m) := by
 obtain ⟨t, h1, h2⟩ := h
 refine ⟨fun σ H R => iList Z.K t σ H R ∨ (iTup Z.K t σ H R ∨ iStr t σ H R), fun X i => ?_, fun g env σ I H R ds env' Rr hm k => ?_⟩
 ·have q1 := pi_list (X := X) (tg := tg) (h1 X i)
  have q2 := pi_tup (X := X) (tg := tg) (h1 X i)
  rw [i.K] at q1 q2
  exact kE q1 (kE q2 (pi_str (h1 X i)))
 ·unfold df at hm
  cases e1 : m env with
  | none => rw [e1] at hm; cases hm
  | some p =>
   obtain ⟨d, en⟩ := p
   rw [e1] at hm; simp only [Option.bind_some] at hm
   cases d <;> simp only [D.walk?] at hm <;> first | cases hm | skip
   ·refine .inr (.inr (h2 g env σ I H _ _ _ Rr e1 fun v I1 H1 R1 s1 rv => ⟨_, rv.str_inv, k _ I1 H1 R1 s1 mJ⟩))
   ·refine .inl (h2 g env σ I H _ _ _ Rr e1 fun v I1 H1 R1 s1 rv => ?_)
    obtain ⟨a, vs, rfl, ha, ra⟩ := rv.lst_inv
    exact ⟨a, rfl, ⟨vs, SqL.of (R1.sub _ _ ha)⟩, k _ I1 H1 R1 s1 (iY (SqL.of ha) ra)⟩
   ·refine .inr (.inl (h2 g env σ I H _ _ _ Rr e1 fun v I1 H1 R1 s1 rv => ?_))
    obtain ⟨a, vs, rfl, ha, ra⟩ := rv.tup_inv
    exact ⟨a, rfl, ⟨vs, SqT.mono R1.sub ha⟩, k _ I1 H1 R1 s1 (nj ha ra)⟩
   ·refine .inl (h2 g env σ I H _ _ _ Rr e1 fun v I1 H1 R1 s1 rv => ?_)
    obtain ⟨a, vs, rfl, ha, ra⟩ := rv.scr_inv
    exact ⟨a, rfl, ⟨vs, R1.sub.seq ha⟩, k _ I1 H1 R1 s1 (iY ha ra)⟩
def bW (lo : Int) (n : Nat) : List D := (List.range n).map fun i => .int (lo + (i : Nat))
theorem jo {lo : Int} {n : Nat} {I : Hp} : WD Z (Itr lo n) (bW lo n) I := by
 refine ⟨_, _, by unfold bW; rw [List.length_map, List.length_range]; exact walk_range, fun _ _ _ _ => trivial, fun i d g env σ I' H x H' hd s R y => ?_⟩
 obtain ⟨rfl, rfl⟩ := y
 unfold bW at hd
 rw [List.getElem?_map] at hd
 cases e : (List.range n)[i]? with
 | none => rw [e] at hd; cases hd
 | some j =>
  rw [e] at hd
  cases hd
  obtain ⟨h1, h2⟩ := List.getElem?_eq_some_iff.mp e
  rw [List.getElem_range] at h2
  subst h2
  exact ⟨I', R, Same.refl _, .int⟩
def iR1 (a : En → Option (List D × En)) : MI := fun env => (a env).bind fun p => match p.1 with
 | [.int j] => if -(2 ^ 62) ≤ j ∧ j < 2 ^ 62 then some (bW 0 j.toNat, p.2) else none
 | _ => none
def iR2 (a : En → Option (List D × En)) : MI := fun env => (a env).bind fun p => match p.1 with
 | [.int i, .int j] => if -(2 ^ 62) ≤ i ∧ i < 2 ^ 62 ∧ -(2 ^ 62) ≤ j ∧ j < 2 ^ 62 then some (bW i (j - i).toNat, p.2) else none
 | _ => none
theorem gu {tg a : Expr} {m : En → Option (List D × En)} {p pos : Pos} (hg : GlZ Z "range") (hm : Z.mg "range" = none) (h : AE Z [a] m) (hs : ∀ env, starEach [a] env = [(false, eval a env)] := by intro _; rfl) : IV Z tg (.Call (.Name "range" p) [a] [] pos) (iR1 m) := by
 obtain ⟨t, h1, h2⟩ := h
 refine ⟨iRng1 t, fun X i => pi_range1 (dt i hg) (by rw [i.mg]; exact hm) (h1 X i) (hs _), fun g env σ I H R ds env' Rr hm k => ?_⟩
 unfold iR1 at hm
 cases hes : m env with
 | none => rw [hes] at hm; cases hm
 | some es =>
  rw [hes] at hm
  simp only [Option.bind_some] at hm
  obtain ⟨es, en⟩ := es
  refine h2 g env σ I H _ es en Rr hes fun vs I1 H1 R1 s1 rs => ?_
  dsimp only at hm
  split at hm
  ·split at hm
   ·rename_i hb
    cases hm
    cases rs with
    | cons r1 r2 =>
     cases r2
     cases r1.int_inv
     exact ⟨_, rfl, hb.1, hb.2, k _ I1 H1 R1 s1 jo⟩
   ·cases hm
  ·cases hm
theorem l4 {tg a b : Expr} {m : En → Option (List D × En)} {p pos : Pos} (hg : GlZ Z "range") (hm : Z.mg "range" = none) (h : AE Z [a, b] m) (hs : ∀ env, starEach [a, b] env = [(false, eval a env), (false, eval b env)] := by intro _; rfl) (hs2 : ∀ env, starEach [b] env = [(false, eval b env)] := by intro _; rfl) : IV Z tg (.Call (.Name "range" p) [a, b] [] pos) (iR2 m) := by
 obtain ⟨t, h1, h2⟩ := h
 refine ⟨iRng2 t, fun X i => pi_range2 (dt i hg) (by rw [i.mg]; exact hm) (h1 X i) (hs _) (hs2 _), fun g env σ I H R ds env' Rr hm k => ?_⟩
 unfold iR2 at hm
 cases hes : m env with
 | none => rw [hes] at hm; cases hm
 | some es =>
  rw [hes] at hm
  simp only [Option.bind_some] at hm
  obtain ⟨es, en⟩ := es
  refine h2 g env σ I H _ es en Rr hes fun vs I1 H1 R1 s1 rs => ?_
  dsimp only at hm
  split at hm
  ·split at hm
   ·rename_i hb
    cases hm
    cases rs with
    | cons r1 r2 =>
     cases r2 with
     | cons r2 r3 =>
      cases r3
      cases r1.int_inv
      cases r2.int_inv
      exact ⟨_, _, rfl, hb, k _ I1 H1 R1 s1 jo⟩
   ·cases hm
  ·cases hm
theorem SR.tup {K : PySem.W.Frag} {cl : String → Option Addr} {g : G} {env : En} {σ : St} {I H : Hp} (R : SR K cl g env σ I H) {p : Addr} {ds : List D} {vs : List V} (hp : H p = none) (r : aq K cl I ds vs) :
  SR K cl g env σ (upd I p (.tup vs)) (upd H p (.tup vs)) ∧ Same I (upd I p (.tup vs)) ∧ Rep K cl (upd I p (.tup vs)) (.tup ds) (.ref p) := by
 obtain ⟨R2, s2⟩ := (R.alloc hp _).freeze (R.new (o := .tup vs) hp)
 exact ⟨R2, s2, .tup (SqT.of upd_same) (r.mono s2)⟩
def i5 (k : Nat) : List D → List D
 | [] => []
 | d :: ds => .tup [.int (k : Int), d] :: i5 (k + 1) ds
def dO (gf : D → En → Option En) (body : MS) : List D → MS
 | [], env => some (.nx env)
 | d :: ds, env => (gf d env).bind fun e => (body e).bind fun fl => match fl with
  | .nx e' => dO gf body ds e'
  | .ct e' => dO gf body ds e'
  | .bk e' => some (.nx e')
  | .ret md r e' => some (.ret md r e')
def cF (it : MI) (gf : D → En → Option En) (body : MS) : MS := fun env => (it env).bind fun p => dO gf body p.1 p.2
theorem fV {tg e : Expr} {b : List Stmt} {mi : MI} {ix : List Nat} {gf : D → En → Option En} {mb : MS} {pos : Pos} (hi : IV Z tg e mi) (hg : GV Z tg ix gf) (hb : BV Z b mb) (hs : ∀ env x, foldedSetIterable e env x = pure x := by intro _ _; rfl) : SV Z (.For tg e b [] pos) (cF mi gf mb) := by
 obtain ⟨wi, i1, i2⟩ := hi
 obtain ⟨gt, g1, g2⟩ := hg
 obtain ⟨tb, b1, b2⟩ := hb
 refine ⟨tFor wi gt tb, fun X k => ps_for k.own k.calm (i1 X k) (g1 X k) (b1 X k) (hs _), fun g env σ I H D fl R hm k => ?_⟩
 unfold cF at hm
 cases e1 : mi env with
 | none => rw [e1] at hm; cases hm
 | some p =>
  obtain ⟨ds, en⟩ := p
  rw [e1] at hm; simp only [Option.bind_some] at hm
  refine i2 g env σ I H _ ds en R e1 fun J I1 H1 R1 s1 wd => ?_
  obtain ⟨Gd, Y, hw, hgd, hy⟩ := wd
  refine for_it hw (fun i σ' H' => ∃ env' I', SR Z.K Z.cl g env' σ' I' H' ∧ Same I1 I' ∧ dO gf mb (ds.drop i) env' = some fl) ⟨en, I1, R1, Same.refl _, hm⟩ (fun i σ' H' _ ⟨env', I', R', s', _⟩ => hgd I' H' s' R'.sub) ?_ ?_
  ·rintro i x σ2 H2 H3 hlt ⟨env2, I2, R2, s2, hm2⟩ hyld
   have hd : ds[i]? = some ds[i] := List.getElem?_eq_getElem hlt
   have hdrop : ds.drop i = ds[i] :: ds.drop (i + 1) := List.drop_eq_getElem_cons hlt
   rw [hdrop] at hm2
   obtain ⟨I3, R3, s3, r3⟩ := hy i ds[i] g env2 σ2 I2 H2 x H3 hd s2 R2 hyld
   unfold dO at hm2
   cases e2 : gf ds[i] env2 with
   | none => rw [e2] at hm2; cases hm2
   | some en2 =>
    rw [e2] at hm2; simp only [Option.bind_some] at hm2
    refine g2 g env2 σ2 I3 H3 ds[i] x _ en2 R3 r3 e2 fun σ4 R4 _ => ?_
    cases e3 : mb en2 with
    | none => rw [e3] at hm2; cases hm2
    | some f =>
     rw [e3] at hm2; simp only [Option.bind_some] at hm2
     refine b2 g en2 σ4 I3 H3 _ f R4 e3 ?_
     cases f with
     | nx e => exact fun σ5 I5 H5 R5 s5 => ⟨e, I5, R5, (s2.trans s3).trans s5, hm2⟩
     | ct e => exact fun σ5 I5 H5 R5 s5 => ⟨e, I5, R5, (s2.trans s3).trans s5, hm2⟩
     | bk e => cases hm2; exact fun σ5 I5 H5 R5 s5 => k σ5 I5 H5 R5 (s1.trans ((s2.trans s3).trans s5))
     | ret md r e => cases hm2; exact fun σ5 I5 H5 v R5 s5 hr => k σ5 I5 H5 v R5 (s1.trans ((s2.trans s3).trans s5)) hr
  ·rintro σ2 H2 ⟨env2, I2, R2, s2, hm2⟩
   rw [List.drop_length] at hm2
   cases hm2
   exact k σ2 I2 H2 R2 (s1.trans s2)
end
end Q
namespace Q
open PySem L2
section
variable {Z : Zc}
def CV (Z : Zc) (es : List Expr) (m : MT) : Prop := ∃ t, (∀ X, InF Z X → PTs X es t) ∧ ST Z t m
def dw : MT := fun env => some (true, env)
theorem jF : CV Z [] dw := ⟨tYes, fun _ _ => pts_nil, fun g env σ I H Q b env' R hm k => by cases hm; exact k I H R (Same.refl _)⟩
def bV (env : En) : List Nat → En
 | [] => env
 | v :: vs => (bV env vs).set v .un
theorem SR.unset {K : PySem.W.Frag} {cl : String → Option Addr} {g : G} {env : En} {σ : St} {I H : Hp} (R : SR K cl g env σ I H) (i : Nat) (x : Option V) : SR K cl g (env.set i .un) (σ.set i x) I H := by
 by_cases h : i < σ.length
 ·exact R.setUn h
 ·have h2 : ¬ i < env.length := by rw [R.len]; exact h
  rw [List.set_eq_of_length_le (by omega), List.set_eq_of_length_le (by omega)]
  exact R
theorem SR.wipe {K : PySem.W.Frag} {cl : String → Option Addr} {g : G} {env : En} {σ : St} {I H : Hp} (R : SR K cl g env σ I H) : ∀ vs, SR K cl g (bV env vs) (wipe σ vs) I H
 | [] => R
 | v :: vs => (SR.wipe R vs).unset v none
def Sl.calm : Sl → Bool
 | .un => true
 | .imm _ => true
 | _ => false
def fB (env : En) (vs : List Nat) : Bool := vs.all fun v => match env[v]? with
 | some s => s.calm
 | none => false
def cZ (e0 env : En) : List Nat → En
 | [] => env
 | v :: vs => match e0[v]? with
  | some s => cZ e0 (env.set v s) vs
  | none => cZ e0 env vs
theorem wipe_out {σ : St} {i : Nat} : ∀ {vs : List Nat}, i ∉ vs → (wipe σ vs)[i]? = σ[i]?
 | [], _ => rfl
 | v :: vs, h => by
  show ((wipe σ vs).set v none)[i]? = σ[i]?
  rw [List.getElem?_set_ne (fun z => h (by rw [z]; exact List.mem_cons_self)), wipe_out fun z => h (List.mem_cons_of_mem _ z)]
theorem SR.back {K : PySem.W.Frag} {cl : String → Option Addr} {g g0 : G} {e0 : En} {σ : St} {I0 H0 : Hp} (R0 : SR K cl g0 e0 σ I0 H0) :
  ∀ (vs : List Nat) {env : En} {I H : Hp}, vs.Nodup → fB e0 vs = true → SR K cl g env (L2.wipe σ vs) I H → Same I0 I → SR K cl g (cZ e0 env vs) σ I H
 | [], env, I, H, _, _, R, _ => R
 | v :: vs, env, I, H, hnd, hc, R, s => by
  unfold fB at hc
  rw [List.all_cons, Bool.and_eq_true] at hc
  obtain ⟨h1, h2⟩ := hc
  obtain ⟨hv, hnd2⟩ := List.nodup_cons.mp hnd
  unfold cZ
  cases e : e0[v]? with
  | none => rw [e] at h1; cases h1
  | some sl =>
   rw [e] at h1
   obtain ⟨x, hx, q⟩ := R0.at_ v sl e
   have hvl : v < σ.length := (List.getElem?_eq_some_iff.mp hx).1
   have hs : eX K cl g I H sl x := by
    cases sl with
    | un => trivial
    | imm d => obtain ⟨w, rfl, r⟩ := q; exact ⟨w, rfl, r.mono s⟩
    | _ => cases h1
   have ht : sl.top = false := by cases sl <;> first | rfl | cases h1
   have R1 := R.store (i := v) (s' := sl) (x := x) (by rw [wipe_length]; exact hvl) hs (fun a _ z => by rw [ht] at z; cases z)
   have e1 : (L2.wipe σ (v :: vs)).set v x = L2.wipe σ vs := by
    show ((L2.wipe σ vs).set v none).set v x = L2.wipe σ vs
    rw [List.set_set]
    have q2 : (L2.wipe σ vs)[v]? = some x := by rw [wipe_out hv]; exact hx
    apply List.ext_getElem?
    intro j
    by_cases hj : j = v
    ·subst hj; rw [List.getElem?_set_self (by rw [wipe_length]; exact hvl)]; exact q2.symm
    ·rw [List.getElem?_set_ne (Ne.symm hj)]
   rw [e1] at R1
   exact SR.back R0 vs hnd2 h2 R1 s
abbrev G.beside (g : G) (p : Addr) (o : HO) : G := { g with X := (p, o) :: g.X }
section
variable {K : PySem.W.Frag} {cl : String → Option Addr} {g : G} {env : En} {σ : St} {I H : Hp} {p : Addr} {o o' : HO}
theorem SR.put (R : SR K cl g env σ I H) (n : New g env σ I H p o) : SR K cl (g.beside p o) env σ I H :=
 ⟨R.sub, R.i0, R.h0, R.hi, R.oh, R.len, R.at_, R.dis, fun a u h => by
  rcases List.mem_cons.mp h with h | h
  ·cases h; exact ⟨n.at_, n.i, n.no⟩
  ·exact R.ex a u h, fun a u h => by
  rcases List.mem_cons.mp h with h | h
  ·cases h; exact n.h0
  ·exact R.ex0 a u h, R.tb⟩
theorem SR.take (hx : ∀ u, (p, u) ∉ g.X) (R : SR K cl (g.beside p o) env σ I H) : SR K cl g env σ I H ∧ New g env σ I H p o :=
 ⟨⟨R.sub, R.i0, R.h0, R.hi, R.oh, R.len, R.at_, R.dis, fun a u h => R.ex a u (List.mem_cons_of_mem _ h), fun a u h => R.ex0 a u (List.mem_cons_of_mem _ h), R.tb⟩,
  (R.ex p o List.mem_cons_self).1, (R.ex p o List.mem_cons_self).2.1, R.ex0 p o List.mem_cons_self, (R.ex p o List.mem_cons_self).2.2, hx⟩
end
end
end Q
namespace Q
open PySem L2
section
variable {Z : Zc}
def spM (K : PySem.W.Frag) (cl : String → Option Addr) (N : List Str) (np : Nat) (m : MS) : Sp := fun vs H Q _ => vs.length = np ∧
 ∃ (g : G) (env : En) (I : Hp) (fl : Fl), SR K cl g env (start N vs) I H ∧ m env = some fl ∧
  (match fl with
  | .nx env' => ∀ σ' I' H', SR K cl g env' σ' I' H' → Same I I' → Q .non H'
  | .ret md d env' => ∀ σ' I' H' v, SR K cl g env' σ' I' H' → Same I I' → (match md with
   | .imm => Rep K cl I' d v
   | .new => ∃ p o, v = .ref p ∧ New g env' σ' I' H' p o ∧ aE K cl I' d o) → Q v H'
  | _ => False)
theorem cf {P : Program} {w : World} {K : PySem.W.Frag} {mg : Str → Option Value} {base : Heap} {cl : String → Option Addr} {x qual : Str} {st : Stmt} {f : Addr} {fd : FuncData} {N ps : List Str} {k : Nat} {m : MS} {me : Option (Addr × Addr)}
  (F : Fun K x qual st f fd) (S : FnScope N ps (defScope st)) (hb : BV ⟨P, w, K, mg, base, N, defScope st, k, cl, true, me⟩ (defBody st) m) (hme : ∀ c P, me = some (c, P) → fd.code = .ref c ∧ GxR.TabB base mg c P ∧ bp cl P := by intro _ _ h; cases h) : FnG P w K mg base CX0 (k + 1) f fd ps (spM K cl N ps.length m) := by
 refine lY F S (fun h => h.1) (fun cdv A outer s H vs Q E hcd hr hgd h => ?_)
 obtain ⟨t, b1, b2⟩ := hb
 obtain ⟨hl, g, env, I, fl, R, hm, k'⟩ := h
 refine ⟨t, (b1 _ ⟨rfl, rfl, rfl, rfl, rfl, rfl, rfl, rfl, hr, S.nd, fun _ _ => rfl, PassesOwn.never, hgd, fun c P e => let ⟨h1, h2⟩ := hme c P e; ⟨hcd.symm.trans h1, h2⟩⟩).nox, ?_⟩
 refine b2 g env (start N vs) I H _ fl R hm ?_
 cases fl with
 | nx e => exact fun σ' I' H' R' s => k' σ' I' H' R' s
 | bk e => exact k'.elim
 | ct e => exact k'.elim
 | ret md d e =>
  intro σ' I' H' v R' s hr
  refine k' σ' I' H' v R' s ?_
  cases md with
  | imm => exact hr
  | new => exact hr
inductive Ag where
 | imm (d : D) | bor (i : Nat) | io (i : Nat)
inductive eT (Z : Zc) (I : Hp) (σ : St) : Ag → V → Prop
 | imm {d v} : Rep Z.K Z.cl I d v → eT Z I σ (.imm d) v
 | bor {i v} : σ[i]? = some (some v) → eT Z I σ (.bor i) v
 | io {i v} : σ[i]? = some (some v) → eT Z I σ (.io i) v
inductive bQ (Z : Zc) (I : Hp) (σ : St) : List Ag → List V → Prop
 | nil : bQ Z I σ [] []
 | cons {a v as vs} : eT Z I σ a v → bQ Z I σ as vs → bQ Z I σ (a :: as) (v :: vs)
theorem eT.mono {I I' : Hp} {σ : St} {a : Ag} {v : V} (s : Same I I') (h : eT Z I σ a v) : eT Z I' σ a v := by
 cases h with
 | imm r => exact .imm (r.mono s)
 | bor h => exact .bor h
 | io h => exact .io h
abbrev MG := En → Option (List Ag × En)
def SG (Z : Zc) (t : TA) (m : MG) : Prop := ∀ (g : G) (env : En) (σ : St) (I H : Hp) (Q : List V → Hp → Prop) (as : List Ag) (env' : En), SR Z.K Z.cl g env σ I H → m env = some (as, env') →
 (∀ vs I' H', SR Z.K Z.cl g env' σ I' H' → Same I I' → bQ Z I' σ as vs → Q vs H') → t σ H Q
def AV (Z : Zc) (es : List Expr) (m : MG) : Prop := ∃ t, (∀ X, InF Z X → PA X es t) ∧ SG Z t m
def aB : MG := fun env => some ([], env)
def aD (a : ME) (r : MG) : MG := fun env => (a env).bind fun p => (r p.2).map fun q => (.imm p.1 :: q.1, q.2)
def cz (i : Nat) (r : MG) : MG := fun env => (env[i]?.bind Sl.rd).bind fun _ => (r env).map fun q => (.bor i :: q.1, q.2)
def cIo (i : Nat) (r : MG) : MG := fun env => (env[i]?.bind Sl.own?).bind fun _ => (r env).map fun q => (.io i :: q.1, q.2)
theorem bc : AV Z [] aB := ⟨tNil, fun _ _ => pa_nil, fun g env σ I H Q as env' R hm k => by cases hm; exact k [] I H R (Same.refl _) .nil⟩
theorem aX {e : Expr} {es : List Expr} {m : ME} {r : MG} (h : EV Z e m) (hr : AV Z es r) (hs : ∀ env, starEach (e :: es) env = (false, eval e env) :: starEach es env := by intro _; rfl) : AV Z (e :: es) (aD m r) := by
 obtain ⟨t, h1, h2⟩ := h
 obtain ⟨u, r1, r2⟩ := hr
 refine ⟨_, fun X i => pa_cons (h1 X i) (r1 X i) (hs _), fun g env σ I H Q as env' R hm k => ?_⟩
 unfold aD at hm
 cases e1 : m env with
 | none => rw [e1] at hm; cases hm
 | some p =>
  rw [e1] at hm
  simp only [Option.bind_some] at hm
  cases e2 : r p.2 with
  | none => rw [e2] at hm; cases hm
  | some q =>
   rw [e2] at hm; cases hm
   refine h2 g env σ I H _ p.1 p.2 R e1 fun v I1 H1 R1 s1 rv => ?_
   exact r2 g p.2 σ I1 H1 _ q.1 q.2 R1 e2 fun vs I2 H2 R2 s2 rs => k (v :: vs) I2 H2 R2 (s1.trans s2) (.cons (.imm (rv.mono s2)) rs)
theorem fH {i : Nat} {x : Str} {p : Pos} {es : List Expr} {r : MG} (hN : Z.N[i]? = some x) (hv : Vis Z.sc x) (hr : AV Z es r) (hd : (x == ("__debug__" : Str)) = false := by decide) (hcd : (x == ("__classdict__" : Str)) = false := by decide)
  (hs : ∀ env, starEach (.Name x p :: es) env = (false, eval (.Name x p) env) :: starEach es env := by intro _; rfl) : AV Z (.Name x p :: es) (cz i r) := by
 obtain ⟨u, r1, r2⟩ := hr
 refine ⟨_, fun X h => pa_cons (pe_var (by rw [h.N]; exact hN) (cD h hv) hd hcd) (r1 X h) (hs _), fun g env σ I H Q as env' R hm k => ?_⟩
 unfold cz at hm
 cases e1 : env[i]?.bind Sl.rd with
 | none => rw [e1] at hm; cases hm
 | some d =>
  rw [e1] at hm
  simp only [Option.bind_some] at hm
  cases e2 : r env with
  | none => rw [e2] at hm; cases hm
  | some q =>
   rw [e2] at hm; cases hm
   obtain ⟨v, hv⟩ := oE R e1
   exact ⟨v, hv, r2 g env σ I H _ q.1 q.2 R e2 fun vs I2 H2 R2 s2 rs => k (v :: vs) I2 H2 R2 s2 (.cons (.bor hv) rs)⟩
theorem cY {i : Nat} {x : Str} {p : Pos} {es : List Expr} {r : MG} (hN : Z.N[i]? = some x) (hv : Vis Z.sc x) (hr : AV Z es r) (hd : (x == ("__debug__" : Str)) = false := by decide) (hcd : (x == ("__classdict__" : Str)) = false := by decide)
  (hs : ∀ env, starEach (.Name x p :: es) env = (false, eval (.Name x p) env) :: starEach es env := by intro _; rfl) : AV Z (.Name x p :: es) (cIo i r) := by
 obtain ⟨u, r1, r2⟩ := hr
 refine ⟨_, fun X h => pa_cons (pe_var (by rw [h.N]; exact hN) (cD h hv) hd hcd) (r1 X h) (hs _), fun g env σ I H Q as env' R hm k => ?_⟩
 unfold cIo at hm
 cases e1 : env[i]? with
 | none => rw [e1] at hm; cases hm
 | some s =>
  rw [e1] at hm
  simp only [Option.bind_some] at hm
  cases e3 : s.own? with
  | none => rw [e3] at hm; cases hm
  | some d =>
   rw [e3] at hm
   simp only [Option.bind_some] at hm
   cases e2 : r env with
   | none => rw [e2] at hm; cases hm
   | some q =>
    rw [e2] at hm; cases hm
    obtain ⟨a, o, hv, _⟩ := dE R e1 e3
    exact ⟨_, hv, r2 g env σ I H _ q.1 q.2 R e2 fun vs I2 H2 R2 s2 rs => k (_ :: vs) I2 H2 R2 s2 (.cons (.io hv) rs)⟩
def Ag.slot (env : En) (n : Nat) : Ag → Option Sl
 | .imm d => some (.imm d)
 | .bor i => match env[i]? with
  | some (.imm d) => some (.imm d)
  | some s => s.rd.map .bor
  | none => none
 | .io i => (env[i]?.bind Sl.own?).map fun d => .io n d
def Ag.ioOf : Ag → Option Nat
 | .io i => some i
 | _ => none
def aS (env : En) : Nat → List Ag → Option (List Sl)
 | _, [] => some []
 | n, a :: as => (a.slot env n).bind fun s => (aS env (n + (if a.ioOf.isSome then 1 else 0)) as).map fun r => s :: r
def ay (as : List Ag) : List Nat := as.filterMap Ag.ioOf
def bN (as : List Ag) : List Nat := as.filterMap fun a => match a with
 | .bor i => some i
 | _ => none
def apart (as : List Ag) : Bool := decide (ay as).Nodup && (bN as).all fun i => decide (i ∉ ay as)
def bJ (cenv : En) : Nat → List Nat → List Nat → En → Option En
 | _, [], _, env => some env
 | n, i :: is, j :: js, env => match cenv[j]? with
  | some (.io n' d) => if n' = n then bJ cenv (n + 1) is js (aI env i d) else none
  | _ => none
 | _, _, _, _ => none
def ax : Nat → List Ag → List Nat
 | _, [] => []
 | n, a :: as => if a.ioOf.isSome then n :: ax (n + 1) as else ax (n + 1) as
def cG (N : List Str) (mf : MS) (a : MG) : En → Option (Md × D × En) := fun env => (a env).bind fun p => if apart p.1 = true then (aS p.2 0 p.1).bind fun ss =>
 (mf (ss ++ List.replicate (N.length - ss.length) .un)).bind fun fl => match fl with
  | .nx cenv => (bJ cenv 0 (ay p.1) (ax 0 p.1) p.2).map fun e => (.imm, .non, e)
  | .ret md d cenv => (bJ cenv 0 (ay p.1) (ax 0 p.1) p.2).map fun e => (md, d, e)
  | _ => none
 else none
def bC (σ : St) (i : Nat) : Addr := match σ[i]? with
 | some (some (.ref a)) => a
 | _ => 0
theorem c4 {σ : St} {i : Nat} {a : Addr} (h : σ[i]? = some (some (.ref a))) : bC σ i = a := by unfold bC; rw [h]
theorem e9 {s : Sl} {d : D} (h : s.own? = some d) : s.mut = true ∧ s.top = true := by cases s <;> first | exact ⟨rfl, rfl⟩ | cases h
theorem gB (s : Sl) (d : D) : (s.put d).mut = s.mut ∧ (s.put d).top = s.top := by cases s <;> exact ⟨rfl, rfl⟩
def Behind (Z : Zc) (σ : St) (Ic Hc : Hp) (is : List Nat) (env env' : En) : Prop := env'.length = env.length ∧ ∀ (i : Nat) (s' : Sl), env'[i]? = some s' →
 (i ∉ is ∧ env[i]? = some s') ∨ (i ∈ is ∧ ∃ s d, env[i]? = some s ∧ s.own?.isSome = true ∧ s' = s.put d ∧ ∃ o, Hc (bC σ i) = some o ∧ aE Z.K Z.cl Ic d o)
theorem SR.after {g : G} {env env' : En} {σ : St} {I H Ic Hc : Hp} {is : List Nat} (R : SR Z.K Z.cl g env σ I H) (his : ∀ i ∈ is, ∃ s d, env[i]? = some s ∧ s.own? = some d)
  (hI : Same I Ic) (hsub : Same Ic Hc) (hB0 : ∀ a o, H a = some o → a ∉ is.map (bC σ) → ¬ bp Z.cl a → Hc a = some o) (hT : ∀ a, bp Z.cl a → GxR.TabG Hc a) (hC : ∀ a o, H a = some o → I a = none → Ic a = none)
  (hD : ∀ a ∈ is.map (bC σ), ∃ o, Hc a = some o) (hE : Behind Z σ Ic Hc is env env') : SR Z.K Z.cl g env' σ Ic Hc := by
 have hB : ∀ {a : Addr} {o : HO} {d : D} {J : Hp}, H a = some o → a ∉ is.map (bC σ) → aE Z.K Z.cl J d o → Hc a = some o := fun h n r => hB0 _ _ h n (R.noTab h r)
 -- a changed object's address is of a slot
 have adr : ∀ a ∈ is.map (bC σ), ∃ i s d o, i ∈ is ∧ env[i]? = some s ∧ s.own? = some d ∧ σ[i]? = some (some (.ref a)) ∧ H a = some o ∧ I a = none := fun a ha => by
  obtain ⟨i, hi, rfl⟩ := List.mem_map.mp ha
  obtain ⟨s, d, h1, h2⟩ := his i hi
  obtain ⟨b, o, h3, h4, h5, h6⟩ := dE R h1 h2
  rw [c4 h3]
  exact ⟨i, s, d, o, hi, h1, h2, h3, h4, h6⟩
 have flags : ∀ (i : Nat) (s' : Sl), env'[i]? = some s' → ∃ s, env[i]? = some s ∧ s'.mut = s.mut ∧ s'.top = s.top := fun i s' h => by
  rcases hE.2 i s' h with ⟨_, h1⟩ | ⟨_, s, d, h1, _, rfl, _⟩
  ·exact ⟨s', h1, rfl, rfl⟩
  ·exact ⟨s, h1, gB s d⟩
 have other : ∀ (i : Nat) (s : Sl) (a : Addr), i ∉ is → env[i]? = some s → s.top = true → σ[i]? = some (some (.ref a)) → a ∉ is.map (bC σ) := fun i s a hi h1 h2 h3 ha => by
  obtain ⟨j, s2, d, o, hj, h4, h5, h6, _⟩ := adr a ha
  exact R.dis j i s2 s a (fun z => hi (by rw [← z]; exact hj)) h4 h1 (e9 h5).1 h2 h6 h3
 refine ⟨hsub, R.i0.trans hI, fun a o h1 h2 h9 => ?_, fun a o h1 h2 => ?_, fun a ha => ?_, by rw [hE.1]; exact R.len, fun i s' h => ?_, fun i j s s' a hne h1 h2 m1 m2 => ?_, fun a o hx => ?_, R.ex0, fun a ht => ?_⟩
 rotate_right
 ·obtain ⟨t1, ⟨ps, t2, t3⟩, t4⟩ := R.tb a ht
  exact ⟨hC a _ t2 t1, hT a ht, t4⟩
 ·refine hB0 a o (R.h0 a o h1 h2 h9) (fun ha => ?_) h9
  obtain ⟨i, s, d, o2, _, q1, q2, q3, q4, q5⟩ := adr a ha
  obtain ⟨x, hx, q⟩ := R.at_ i s q1
  rw [q3] at hx; cases hx
  cases s with
  | own d' => obtain ⟨b, v, e, _, _, _, h4⟩ := q; cases e; rw [h4] at h1; cases h1
  | io k d' => obtain ⟨b, v, e, h0, _⟩ := q; cases e; exact h2 (List.mem_of_getElem? h0)
  | un => cases q2
  | imm => cases q2
  | bor => cases q2
  | lck => cases q2
 ·by_cases hO : a ∈ g.O
  ·obtain ⟨⟨o2, q1⟩, q2, _⟩ := R.oh a hO
   exact hC a o2 q1 q2
  ·by_cases ht : bp Z.cl a
   ·obtain ⟨t1, ⟨ps, t2, t3⟩, t4⟩ := R.tb a ht
    exact hC a _ t2 t1
   ·exact hC a o (R.h0 a o h1 hO ht) (R.hi a o h1 h2)
 ·obtain ⟨⟨o, q1⟩, q2, q3⟩ := R.oh a ha
  refine ⟨?_, hC a o q1 q2, q3⟩
  by_cases h : a ∈ is.map (bC σ)
  ·exact hD a h
  ·by_cases ht : bp Z.cl a
   ·obtain ⟨ps, t2, t3⟩ := hT a ht
    exact ⟨_, t2⟩
   ·exact ⟨o, hB0 a o q1 h ht⟩
 ·rcases hE.2 i s' h with ⟨hi, h1⟩ | ⟨hi, s, d, h1, h2, rfl, o, h3, h4⟩
  ·obtain ⟨x, hx, q⟩ := R.at_ i s' h1
   refine ⟨x, hx, ?_⟩
   cases s' with
   | un => trivial
   | imm d => obtain ⟨v, rfl, r⟩ := q; exact ⟨v, rfl, r.mono hI⟩
   | bor d => obtain ⟨a, rfl, o, q1, q2⟩ := q; exact ⟨a, rfl, o, hB q1 (other i _ a hi h1 rfl hx) q2, q2.mono hI⟩
   | own d => obtain ⟨a, o, rfl, q1, q2, q3, q4⟩ := q; exact ⟨a, o, rfl, hB q1 (other i _ a hi h1 rfl hx) q2, q2.mono hI, hC a o q1 q3, q4⟩
   | lck d => obtain ⟨a, o, rfl, q1, q2, q3, q4⟩ := q; exact ⟨a, o, rfl, hB q1 (other i _ a hi h1 rfl hx) q2, q2.mono hI, hC a o q1 q3, q4⟩
   | io k d => obtain ⟨a, o, rfl, q0, q1, q2⟩ := q; exact ⟨a, o, rfl, q0, hB q1 (other i _ a hi h1 rfl hx) q2, q2.mono hI⟩
  ·obtain ⟨x, hx, q⟩ := R.at_ i s h1
   refine ⟨x, hx, ?_⟩
   cases s with
   | own d' =>
    obtain ⟨a, v, rfl, q1, q2, q3, q4⟩ := q
    rw [c4 hx] at h3
    exact ⟨a, o, rfl, h3, h4, hC a v q1 q3, q4⟩
   | io k d' =>
    obtain ⟨a, v, rfl, q0, q1, q2⟩ := q
    rw [c4 hx] at h3
    exact ⟨a, o, rfl, q0, h3, h4⟩
   | un => cases h2
   | imm => cases h2
   | bor => cases h2
   | lck => cases h2
 ·obtain ⟨t, e1, f1, _⟩ := flags i s h1
  obtain ⟨t', e2, _, f2⟩ := flags j s' h2
  exact R.dis i j t t' a hne e1 e2 (by rw [← f1]; exact m1) (by rw [← f2]; exact m2)
 ·obtain ⟨q1, q2, q3⟩ := R.ex a o hx
  have nt : ¬ bp Z.cl a := fun t => by
   obtain ⟨_, _, v, t4⟩ := R.tb a t
   rw [R.ex0 a o hx] at t4; cases t4
  refine ⟨hB0 a o q1 (fun ha => ?_) nt, hC a o q1 q2, fun i s h ht => ?_⟩
  ·obtain ⟨i, s, d, o2, _, e1, e2, e3, _⟩ := adr a ha
   exact q3 i s e1 (e9 e2).2 e3
  ·obtain ⟨t, e1, _, f1⟩ := flags i s h
   exact q3 i t e1 (by rw [← f1]; exact ht)
theorem iw {env : En} {i j : Nat} {d : D} {s : Sl} (h : (aI env i d)[j]? = some s) : (j ≠ i ∧ env[j]? = some s) ∨ (j = i ∧ ∃ s0, env[i]? = some s0 ∧ s = s0.put d) := by
 unfold aI at h
 cases e : env[i]? with
 | none =>
  rw [e] at h
  by_cases hj : j = i
  ·subst hj; rw [e] at h; cases h
  ·exact .inl ⟨hj, h⟩
 | some s0 =>
  rw [e] at h
  rcases bg h with ⟨rfl, _, rfl⟩ | ⟨n, h⟩
  ·exact .inr ⟨rfl, s0, rfl, rfl⟩
  ·exact .inl ⟨n, h⟩
theorem iB (env : En) (i : Nat) (d : D) : (aI env i d).length = env.length := by
 unfold aI
 split <;> simp
theorem gi {g' : G} {cenv : En} {σc : St} {σ : St} {Ic Hc : Hp} (Rc : SR Z.K Z.cl g' cenv σc Ic Hc) : ∀ (n : Nat) (is js : List Nat) (env env' : En), is.Nodup → bJ cenv n is js env = some env' →
  (∀ i ∈ is, ∃ s d, env[i]? = some s ∧ s.own? = some d) → (∀ k i, is[k]? = some i → g'.O[n + k]? = some (bC σ i)) → Behind Z σ Ic Hc is env env'
 | n, [], js, env, env', _, h, _, _ => by
  unfold bJ at h
  cases h
  exact ⟨rfl, fun i s h => .inl ⟨by simp, h⟩⟩
 | n, i :: is, [], env, env', _, h, _, _ => by unfold bJ at h; cases h
 | n, i :: is, j :: js, env, env', hnd, h, hown, hO => by
  unfold bJ at h
  split at h
  ·rename_i n' d hj
   split at h
   ·rename_i hn
    subst hn
    obtain ⟨hi, hnd2⟩ := List.nodup_cons.mp hnd
    have ih := gi Rc (n' + 1) is js (aI env i d) env' hnd2 h (fun k hk => by
     obtain ⟨s, d', h1, h2⟩ := hown k (List.mem_cons_of_mem _ hk)
     have hne : k ≠ i := fun z => hi (by rw [← z]; exact hk)
     refine ⟨s, d', ?_, h2⟩
     unfold aI
     split
     ·rw [List.getElem?_set_ne (Ne.symm hne)]; exact h1
     ·exact h1) (fun k q hq => by have := hO (k + 1) q (by simpa using hq); rw [← this]; congr 1; omega)
    obtain ⟨hl, hb⟩ := ih
    obtain ⟨x, hx, a, o, rfl, q0, q1, q2⟩ := Rc.at_ j _ hj
    have ha : a = bC σ i := by
     have := hO 0 i rfl
     rw [Nat.add_zero] at this
     rw [this] at q0
     exact (Option.some.inj q0).symm
    refine ⟨by rw [hl, iB], fun k s' hk => ?_⟩
    rcases hb k s' hk with ⟨h1, h2⟩ | ⟨h1, s, d2, h2, h3, h4, h5⟩
    ·rcases iw h2 with ⟨hne, f2⟩ | ⟨hki, s0, f2, f3⟩
     ·exact .inl ⟨by simp [hne, h1], f2⟩
     ·obtain ⟨s, d', e1, e2⟩ := hown i List.mem_cons_self
      rw [f2] at e1; cases e1
      refine .inr ⟨by simp [hki], s0, d, by rw [hki]; exact f2, by rw [e2]; rfl, f3, o, by rw [hki, ← ha]; exact q1, q2⟩
    ·have hne : k ≠ i := fun z => hi (by rw [← z]; exact h1)
     rcases iw h2 with ⟨_, f2⟩ | ⟨z, _⟩
     ·exact .inr ⟨List.mem_cons_of_mem _ h1, s, d2, f2, h3, h4, h5⟩
     ·exact absurd z hne
   ·cases h
  ·cases h
theorem bG {env : En} : ∀ {as : List Ag} {n : Nat} {ss : List Sl}, aS env n as = some ss → ss.length = as.length
 | [], n, ss, h => by cases h; rfl
 | a :: as, n, ss, h => by
  unfold aS at h
  cases e1 : a.slot env n with
  | none => rw [e1] at h; cases h
  | some s =>
   rw [e1] at h; simp only [Option.bind_some] at h
   cases e2 : aS env (n + (if a.ioOf.isSome then 1 else 0)) as with
   | none => rw [e2] at h; cases h
   | some r => rw [e2] at h; cases h; simp [bG e2]
theorem cX {env : En} : ∀ {as : List Ag} {n : Nat} {ss : List Sl} {k : Nat} {s : Sl}, aS env n as = some ss → ss[k]? = some s → ∃ a, as[k]? = some a ∧ a.slot env (n + (ay (as.take k)).length) = some s
 | [], n, ss, k, s, h, hk => by cases h; simp at hk
 | a :: as, n, ss, k, s, h, hk => by
  unfold aS at h
  cases e1 : a.slot env n with
  | none => rw [e1] at h; cases h
  | some s1 =>
   rw [e1] at h; simp only [Option.bind_some] at h
   cases e2 : aS env (n + (if a.ioOf.isSome then 1 else 0)) as with
   | none => rw [e2] at h; cases h
   | some r =>
    rw [e2] at h; cases h
    cases k with
    | zero => cases hk; exact ⟨a, rfl, by simpa [ay] using e1⟩
    | succ k =>
     obtain ⟨b, h1, h2⟩ := cX e2 (by simpa using hk)
     refine ⟨b, by simpa using h1, ?_⟩
     have : n + (ay ((a :: as).take (k + 1))).length = n + (if a.ioOf.isSome then 1 else 0) + (ay (as.take k)).length := by
      rw [List.take_succ_cons]
      unfold ay
      rw [List.filterMap_cons]
      cases a.ioOf with
      | none => simp
      | some i => simp; omega
     rw [this]; exact h2
theorem eB : ∀ {as : List Ag} {k i : Nat}, as[k]? = some (.io i) → (ay as)[(ay (as.take k)).length]? = some i
 | [], k, i, h => by simp at h
 | a :: as, 0, i, h => by simp at h; subst h; simp [ay, Ag.ioOf]
 | a :: as, k + 1, i, h => by
  have ih := eB (as := as) (k := k) (i := i) (by simpa using h)
  rw [List.take_succ_cons]
  unfold ay at ih ⊢
  rw [List.filterMap_cons, List.filterMap_cons]
  cases a.ioOf with
  | none => exact ih
  | some j => simpa using ih
theorem bQ.get {I : Hp} {σ : St} : ∀ {as : List Ag} {vs : List V} {k : Nat} {a : Ag}, bQ Z I σ as vs → as[k]? = some a → ∃ v, vs[k]? = some v ∧ eT Z I σ a v
 | _, _, k, _, .nil, h => by simp at h
 | _, _, 0, _, .cons o os, h => by simp at h; subst h; exact ⟨_, rfl, o⟩
 | _, _, k + 1, _, .cons o os, h => by
  obtain ⟨v, h1, h2⟩ := bQ.get (k := k) os (by simpa using h)
  exact ⟨v, by simpa using h1, h2⟩
theorem bQ.length {I : Hp} {σ : St} : ∀ {as : List Ag} {vs : List V}, bQ Z I σ as vs → as.length = vs.length
 | _, _, .nil => rfl
 | _, _, .cons _ os => by simp [bQ.length os]
theorem gJ {N : List Str} {mf : MS} {a : MG} {env : En} {md : Md} {d : D} {e : En} (h : cG N mf a env = some (md, d, e)) :
  ∃ as e1 ss fl cenv, a env = some (as, e1) ∧ apart as = true ∧ aS e1 0 as = some ss ∧ mf (ss ++ List.replicate (N.length - ss.length) .un) = some fl ∧ bJ cenv 0 (ay as) (ax 0 as) e1 = some e ∧
   ((fl = .nx cenv ∧ md = .imm ∧ d = .non) ∨ fl = .ret md d cenv) := by
 unfold cG at h
 cases q1 : a env with
 | none => rw [q1] at h; cases h
 | some p =>
  rw [q1] at h; simp only [Option.bind_some] at h
  split at h
  ·rename_i hap
   cases q2 : aS p.2 0 p.1 with
   | none => rw [q2] at h; cases h
   | some ss =>
    rw [q2] at h; simp only [Option.bind_some] at h
    cases q3 : mf (ss ++ List.replicate (N.length - ss.length) .un) with
    | none => rw [q3] at h; cases h
    | some fl =>
     rw [q3] at h; simp only [Option.bind_some] at h
     cases fl with
     | nx cenv =>
      dsimp only at h
      cases q4 : bJ cenv 0 (ay p.1) (ax 0 p.1) p.2 with
      | none => rw [q4] at h; cases h
      | some e2 => rw [q4] at h; cases h; exact ⟨_, _, ss, _, cenv, rfl, hap, q2, q3, q4, .inl ⟨rfl, rfl, rfl⟩⟩
     | ret md' d' cenv =>
      dsimp only at h
      cases q4 : bJ cenv 0 (ay p.1) (ax 0 p.1) p.2 with
      | none => rw [q4] at h; cases h
      | some e2 => rw [q4] at h; cases h; exact ⟨_, _, ss, _, cenv, rfl, hap, q2, q3, q4, .inr rfl⟩
     | bk => cases h
     | ct => cases h
  ·cases h
theorem callee {g : G} {env : En} {σ : St} {I H : Hp} {as : List Ag} {vs : List V} {ss : List Sl} {N : List Str} (R : SR Z.K Z.cl g env σ I H) (ho : bQ Z I σ as vs) (hap : apart as = true) (hss : aS env 0 as = some ss) :
  (∀ i ∈ ay as, ∃ s d, env[i]? = some s ∧ s.own? = some d) ∧ SR Z.K Z.cl ⟨I, H, (ay as).map (bC σ), []⟩ (ss ++ List.replicate (N.length - ss.length) .un) (start N vs) I H := by
 unfold apart at hap
 rw [Bool.and_eq_true] at hap
 obtain ⟨hnd, hbor⟩ := hap
 have hnd := of_decide_eq_true hnd
 have own : ∀ i ∈ ay as, ∃ s d, env[i]? = some s ∧ s.own? = some d := fun i hi => by
  unfold ay at hi
  obtain ⟨a, ha, hai⟩ := List.mem_filterMap.mp hi
  obtain ⟨k, hk⟩ := List.getElem?_of_mem ha
  have hkl : k < ss.length := by rw [bG hss]; exact (List.getElem?_eq_some_iff.mp hk).1
  obtain ⟨b, h1, h2⟩ := cX hss (List.getElem?_eq_getElem hkl)
  rw [hk] at h1; cases h1
  cases a <;> first | (cases hai) | cases hai
  unfold Ag.slot at h2
  dsimp only at h2
  cases e : env[i]? with
  | none => rw [e] at h2; cases h2
  | some s =>
   rw [e] at h2
   simp only [Option.bind_some] at h2
   cases e2 : s.own? with
   | none => rw [e2] at h2; cases h2
   | some d => exact ⟨s, d, rfl, e2⟩
 refine ⟨own, R.sub, Same.refl _, fun a o h _ _ => h, fun a o _ h => h, fun a ha => ?_, ?_, fun k s hk => ?_, fun j k s s' a hne hj hk m1 m2 => ?_, (fun a o h => by cases h), (fun a o h => by cases h), fun a ht => let ⟨t1, t2, _⟩ := R.tb a ht; ⟨t1, t2, let ⟨ps, h, _⟩ := t2; ⟨_, h⟩⟩⟩
 ·obtain ⟨i, hi, rfl⟩ := List.mem_map.mp ha
  obtain ⟨s, d, h1, h2⟩ := own i hi
  obtain ⟨b, o, h3, h4, h5, h6⟩ := dE R h1 h2
  rw [c4 h3]
  exact ⟨⟨o, h4⟩, h6, o, h4⟩
 ·unfold L2.start
  rw [List.length_append, List.length_append, List.length_replicate, List.length_replicate, List.length_map, bG hss, ho.length]
 ·by_cases hkl : k < ss.length
  ·rw [List.getElem?_append_left hkl] at hk
   obtain ⟨a, h1, h2⟩ := cX hss hk
   obtain ⟨v, h3, h4⟩ := ho.get h1
   refine ⟨some v, ?_, ?_⟩
   ·unfold L2.start
    rw [List.getElem?_append_left (by rw [List.length_map, ← ho.length, ← bG hss]; exact hkl), List.getElem?_map, h3]; rfl
   ·cases h4 with
    | imm r => cases h2; exact ⟨v, rfl, r⟩
    | bor hv =>
     rename_i i
     unfold Ag.slot at h2
     dsimp only at h2
     split at h2
     ·rename_i d e
      cases h2
      obtain ⟨x, hx, u, rfl, r⟩ := R.at_ i _ e
      rw [hv] at hx; cases hx
      exact ⟨v, rfl, r⟩
     ·rename_i s0 hno e
      obtain ⟨x, hx, q⟩ := R.at_ i _ e
      rw [hv] at hx; cases hx
      cases s0 with
      | un => cases h2
      | imm d => exact absurd rfl (hno d)
      | bor d => cases h2; obtain ⟨b, e2, t⟩ := q; cases e2; exact ⟨b, rfl, t⟩
      | own d => cases h2; obtain ⟨b, o, e2, q1, q2, _⟩ := q; cases e2; exact ⟨b, rfl, o, q1, q2⟩
      | lck d => cases h2; obtain ⟨b, o, e2, q1, q2, _⟩ := q; cases e2; exact ⟨b, rfl, o, q1, q2⟩
      | io n d => cases h2; obtain ⟨b, o, e2, _, q1, q2⟩ := q; cases e2; exact ⟨b, rfl, o, q1, q2⟩
     ·cases h2
    | io hv =>
     rename_i i
     unfold Ag.slot at h2
     dsimp only at h2
     cases e : env[i]? with
     | none => rw [e] at h2; cases h2
     | some s0 =>
      rw [e] at h2
      simp only [Option.bind_some] at h2
      cases e2 : s0.own? with
      | none => rw [e2] at h2; cases h2
      | some d =>
       rw [e2] at h2; cases h2
       obtain ⟨b, o, h5, h6, h7, h8⟩ := dE R e e2
       rw [hv] at h5; cases h5
       refine ⟨b, o, rfl, ?_, h6, h7⟩
       have := eB h1
       rw [Nat.zero_add, List.getElem?_map, this]
       show some (bC σ i) = some b
       rw [c4 hv]
  ·rw [List.getElem?_append_right (by omega), List.getElem?_replicate] at hk
   split at hk
   ·rename_i hlt
    cases hk
    refine ⟨none, ?_, trivial⟩
    unfold L2.start
    have e1 := ho.length
    have e2 := bG hss
    rw [List.getElem?_append_right (by rw [List.length_map]; omega), List.getElem?_replicate, List.length_map, if_pos (by omega)]
   ·cases hk
 ·-- two slots at one address
  intro q1 q2
  have low : ∀ (k : Nat) (s : Sl), (ss ++ List.replicate (N.length - ss.length) Sl.un)[k]? = some s → s.top = true → (start N vs)[k]? = some (some (.ref a)) →
    ∃ i ag t, as[k]? = some ag ∧ (ag = .bor i ∨ ag = .io i) ∧ env[i]? = some t ∧ t.top = true ∧ σ[i]? = some (some (.ref a)) ∧ (s.mut = true → ag = .io i ∧ t.mut = true) := fun k s hk ht hv => by
   by_cases hkl : k < ss.length
   ·rw [List.getElem?_append_left hkl] at hk
    obtain ⟨ag, h1, h2⟩ := cX hss hk
    obtain ⟨v, h3, h4⟩ := ho.get h1
    have hv2 : v = .ref a := by
     unfold L2.start at hv
     rw [List.getElem?_append_left (by rw [List.length_map, ← ho.length, ← bG hss]; exact hkl), List.getElem?_map, h3] at hv
     cases hv; rfl
    subst hv2
    cases h4 with
    | imm r => cases h2; cases ht
    | bor hv3 =>
     rename_i i
     unfold Ag.slot at h2
     dsimp only at h2
     split at h2
     ·cases h2; cases ht
     ·rename_i s0 hno e
      refine ⟨i, _, s0, h1, .inl rfl, e, ?_, hv3, fun hm => ?_⟩
      ·cases s0 <;> first | rfl | (exact absurd rfl (hno _)) | cases h2
      ·cases s0 <;> first | (cases h2; cases hm) | cases h2 | (exact absurd rfl (hno _))
     ·cases h2
    | io hv3 =>
     rename_i i
     unfold Ag.slot at h2
     dsimp only at h2
     cases e : env[i]? with
     | none => rw [e] at h2; cases h2
     | some s0 =>
      rw [e] at h2
      simp only [Option.bind_some] at h2
      cases e2 : s0.own? with
      | none => rw [e2] at h2; cases h2
      | some d => exact ⟨i, _, s0, h1, .inr rfl, e, (e9 e2).2, hv3, fun _ => ⟨rfl, (e9 e2).1⟩⟩
   ·rw [List.getElem?_append_right (by omega), List.getElem?_replicate] at hk
    split at hk
    ·cases hk; cases ht
    ·cases hk
  have m1t : s.top = true := by cases s <;> first | rfl | cases m1
  obtain ⟨i, ag, t, f1, f2, f3, f4, f5, f6⟩ := low j s hj m1t q1
  obtain ⟨i', ag', t', k1, k2, k3, k4, k5, k6⟩ := low k s' hk m2 q2
  obtain ⟨f7, f8⟩ := f6 m1
  subst f7
  by_cases hii : i = i'
  ·subst hii
   have him : i ∈ ay as := List.mem_filterMap.mpr ⟨_, List.mem_of_getElem? f1, rfl⟩
   rcases k2 with k2 | k2
   ·subst k2
    have hb : i ∈ bN as := List.mem_filterMap.mpr ⟨_, List.mem_of_getElem? k1, rfl⟩
    exact of_decide_eq_true (List.all_eq_true.mp hbor i hb) him
   ·subst k2
    have p1 := eB f1
    have p2 := eB k1
    have p3 : (ay (as.take j)).length = (ay (as.take k)).length := by
     obtain ⟨l1, e1⟩ := List.getElem?_eq_some_iff.mp p1
     obtain ⟨l2, e2⟩ := List.getElem?_eq_some_iff.mp p2
     exact (List.getElem_inj hnd).mp (e1.trans e2.symm)
    have cnt : ∀ (a b : Nat), a < b → as[a]? = some (.io i) → (ay (as.take a)).length < (ay (as.take b)).length := fun a b hab ha => by
     have hal := (List.getElem?_eq_some_iff.mp ha)
     have e1 : as.take b = as.take a ++ (as.drop a).take (b - a) := by
      rw [← List.take_add]; congr 1; omega
     obtain ⟨hal, hae⟩ := hal
     have e2 : as.drop a = .io i :: as.drop (a + 1) := by rw [← hae]; exact List.drop_eq_getElem_cons hal
     rw [e1, e2]
     obtain ⟨c, hc⟩ : ∃ c, b - a = c + 1 := ⟨b - a - 1, by omega⟩
     rw [hc, List.take_succ_cons]
     unfold ay
     rw [List.filterMap_append, List.length_append, List.filterMap_cons]
     show _ < _ + (i :: _).length
     rw [List.length_cons]
     omega
    rcases Nat.lt_trichotomy j k with h | h | h
    ·have := cnt j k h f1; omega
    ·exact hne h
    ·have := cnt k j h k1; omega
  ·exact R.dis i i' t t' a hii f3 k3 f8 k4 f5 k5
end
section
variable {Z : Zc}
theorem gH {g : G} {env : En} {σ : St} {I H : Hp} {as : List Ag} {vs : List V} {ss : List Sl} {N : List Str} {np : Nat} {mf : MS} {fl : Fl} {cenv env' : En} {md : Md} {d : D} {Q : VK} {E : XK}
  (R : SR Z.K Z.cl g env σ I H) (ho : bQ Z I σ as vs) (hap : apart as = true) (hss : aS env 0 as = some ss) (hm : mf (ss ++ List.replicate (N.length - ss.length) .un) = some fl) (hb : bJ cenv 0 (ay as) (ax 0 as) env = some env')
  (hfl : (fl = .nx cenv ∧ md = .imm ∧ d = .non) ∨ fl = .ret md d cenv) (hnp : as.length = np)
  (k : ∀ Ic Hc v, SR Z.K Z.cl g env' σ Ic Hc → Same I Ic → kq Z g env' σ Ic Hc md d v → Q v Hc) : spM Z.K Z.cl N np mf vs H Q E := by
 obtain ⟨own, Rc⟩ := callee (N := N) R ho hap hss
 refine ⟨by rw [← ho.length]; exact hnp, _, _, I, fl, Rc, hm, ?_⟩
 have hap' := hap
 unfold apart at hap'
 rw [Bool.and_eq_true] at hap'
 have hnd := of_decide_eq_true hap'.1
 have fin : ∀ (σ' : St) (Ic Hc : Hp), SR Z.K Z.cl ⟨I, H, (ay as).map (bC σ), []⟩ cenv σ' Ic Hc → Same I Ic → SR Z.K Z.cl g env' σ Ic Hc := fun σ' Ic Hc Rd s => by
  refine R.after own s Rd.sub (fun a o h1 h2 h3 => Rd.h0 a o h1 h2 h3) (fun a ht => (Rd.tb a ht).2.1) (fun a o h1 h2 => Rd.hi a o h1 h2) (fun a ha => (Rd.oh a ha).1) ?_
  exact gi Rd 0 (ay as) (ax 0 as) env env' hnd hb own fun k i hk => by rw [Nat.zero_add, List.getElem?_map, hk]; rfl
 have newB : ∀ (σ' : St) (Ic Hc : Hp) (p : Addr) (o : HO), SR Z.K Z.cl ⟨I, H, (ay as).map (bC σ), []⟩ cenv σ' Ic Hc → SR Z.K Z.cl g env' σ Ic Hc → New ⟨I, H, (ay as).map (bC σ), []⟩ cenv σ' Ic Hc p o → New g env' σ Ic Hc p o := fun σ' Ic Hc p o Rd Rf n => by
  have hp : H p = none := n.h0
  refine ⟨n.at_, n.i, R.fresh0 hp, fun i s h ht => ?_, fun o' hx => by have := (R.ex p o' hx).1; rw [hp] at this; cases this⟩
  have bh := gi Rd 0 (ay as) (ax 0 as) env env' hnd hb own fun k i hk => by rw [Nat.zero_add, List.getElem?_map, hk]; rfl
  rcases bh.2 i s h with ⟨_, h1⟩ | ⟨_, t, d', h1, _, rfl, _⟩
  ·exact R.slot_ne hp i s h1 ht
  ·exact R.slot_ne hp i t h1 (by rw [← (gB t d').2]; exact ht)
 rcases hfl with ⟨rfl, rfl, rfl⟩ | rfl
 ·intro σ' Ic Hc Rd s
  exact k Ic Hc .non (fin σ' Ic Hc Rd s) s .non
 ·intro σ' Ic Hc v Rd s hr
  have Rf := fin σ' Ic Hc Rd s
  refine k Ic Hc v Rf s ?_
  cases md with
  | imm => exact hr
  | new => obtain ⟨p, o, e, n, r⟩ := hr; exact ⟨p, o, e, newB σ' Ic Hc p o Rd Rf n, r⟩
def aj (N : List Str) (np : Nat) (mf : MS) (a : MG) : ME := fun env => if ((a env).map fun p => p.1.length) = some np then (cG N mf a env).map fun r => (r.2.1, r.2.2) else none
def cw (N : List Str) (np : Nat) (mf : MS) (a : MG) : ME := fun env => if ((a env).map fun p => p.1.length) = some np then (cG N mf a env).bind fun r => match r.1 with
 | .new => some (r.2.1, r.2.2)
 | .imm => none
 else none
structure FnZ (Z : Zc) (x : Str) (N : List Str) (np : Nat) (mf : MS) : Prop where
 ex : ∃ (f : Addr) (fd : FuncData) (ps : List Str), FnG Z.P Z.w Z.K Z.mg Z.base CX0 Z.k f fd ps (spM Z.K Z.cl N np mf) ∧ Z.mg x = some (.ref f) ∧ PySem.W.keepIn Z.K (.ref f) = true ∧ Binds Z.K fd ps []
theorem iQ {N : List Str} {np : Nat} {mf : MS} {t : TA} {a : MG} (h : SG Z t a) : SE Z (tCall (spM Z.K Z.cl N np mf) [] E0 t) (aj N np mf a) := by
 intro g env σ I H Q d env' R hm k
 unfold aj at hm
 split at hm
 ·rename_i hnp
  cases q : cG N mf a env with
  | none => rw [q] at hm; cases hm
  | some r =>
   obtain ⟨md, d', e'⟩ := r
   rw [q] at hm; cases hm
   obtain ⟨as, e1, ss, fl, cenv, h1, h2, h3, h4, h5, h6⟩ := gJ q
   rw [h1] at hnp
   refine h g env σ I H _ as e1 R h1 fun vs I1 H1 R1 s1 os => ?_
   rw [List.append_nil]
   refine gH R1 os h2 h3 h4 h5 h6 (Option.some.inj hnp) fun Ic Hc v Rf s hr => ?_
   cases md with
   | imm => exact k v Ic Hc Rf (s1.trans s) hr
   | new =>
    obtain ⟨p, o, rfl, n, r⟩ := hr
    obtain ⟨R2, s2⟩ := Rf.freeze n
    exact k _ _ _ R2 ((s1.trans s).trans s2) (.obj upd_same (r.mono s2))
 ·cases hm
theorem lF {N : List Str} {np : Nat} {mf : MS} {t : TA} {a : MG} (h : SG Z t a) : SF Z (tCall (spM Z.K Z.cl N np mf) [] E0 t) (cw N np mf a) := by
 intro g env σ I H Q d env' R hm k
 unfold cw at hm
 split at hm
 ·rename_i hnp
  cases q : cG N mf a env with
  | none => rw [q] at hm; cases hm
  | some r =>
   obtain ⟨md, d', e'⟩ := r
   rw [q] at hm
   cases md with
   | imm => cases hm
   | new =>
    cases hm
    obtain ⟨as, e1, ss, fl, cenv, h1, h2, h3, h4, h5, h6⟩ := gJ q
    rw [h1] at hnp
    refine h g env σ I H _ as e1 R h1 fun vs I1 H1 R1 s1 os => ?_
    rw [List.append_nil]
    refine gH R1 os h2 h3 h4 h5 h6 (Option.some.inj hnp) fun Ic Hc v Rf s hr => ?_
    obtain ⟨p, o, rfl, n, r⟩ := hr
    exact k p o Ic Hc Rf (s1.trans s) n r
 ·cases hm
theorem aV {x : Str} {N : List Str} {np : Nat} {mf : MS} {e : Expr} {es : List Expr} {a : MG} {p pos : Pos} (F : FnZ Z x N np mf) (hg : GlZ Z x) (ha : AV Z (e :: es) a) (hdb : (x == ("__debug__" : Str)) = false := by decide)
  (he : ∀ env, starEach (e :: es) env = (false, eval e env) :: starEach es env := by intro _; rfl) (hpl : ∀ env, (backTo pos (starEach es env)).any (·.1) = false := by intro _; rfl) : EV Z (.Call (.Name x p) (e :: es) [] pos) (aj N np mf a) := by
 obtain ⟨f, fd, ps, h1, h2, h3, h4⟩ := F.ex
 obtain ⟨t, a1, a2⟩ := ha
 refine ⟨_, fun X i => FnG.pe (CX := CX0) (k := Z.k) (f := f) (fd := fd) (ps := ps) (E := E0) (sp := spM Z.K Z.cl N np mf) ?_ i.room i.gd (dt i hg) (by rw [i.mg]; exact h2) (by rw [i.K]; exact h3) (by rw [i.K]; exact h4) pass0 (a1 X i) hdb (he _) (hpl _), iQ a2⟩
 rw [i.prog, i.w, i.K, i.mg, i.base]; exact h1
theorem lg {x : Str} {N : List Str} {np : Nat} {mf : MS} {e : Expr} {es : List Expr} {a : MG} {p pos : Pos} (F : FnZ Z x N np mf) (hg : GlZ Z x) (ha : AV Z (e :: es) a) (hdb : (x == ("__debug__" : Str)) = false := by decide)
  (he : ∀ env, starEach (e :: es) env = (false, eval e env) :: starEach es env := by intro _; rfl) (hpl : ∀ env, (backTo pos (starEach es env)).any (·.1) = false := by intro _; rfl) : EF Z (.Call (.Name x p) (e :: es) [] pos) (cw N np mf a) := by
 obtain ⟨f, fd, ps, h1, h2, h3, h4⟩ := F.ex
 obtain ⟨t, a1, a2⟩ := ha
 refine ⟨_, fun X i => FnG.pe (CX := CX0) (k := Z.k) (f := f) (fd := fd) (ps := ps) (E := E0) (sp := spM Z.K Z.cl N np mf) ?_ i.room i.gd (dt i hg) (by rw [i.mg]; exact h2) (by rw [i.K]; exact h3) (by rw [i.K]; exact h4) pass0 (a1 X i) hdb (he _) (hpl _), lF a2⟩
 rw [i.prog, i.w, i.K, i.mg, i.base]; exact h1
end
end Q
namespace Q
open PySem L2
section
variable {Z : Zc}
def isObj (c : String) (m : Str) : D → Bool
 | .obj c' ks _ => decide (c' = c) && decide (m ∉ ks)
 | _ => false
structure MtZ (Z : Zc) (c : String) (m : Str) (N : List Str) (np : Nat) (mf : MS) : Prop where
 ex : ∃ (C f : Addr) (fd : FuncData) (ps : List Str), Z.cl c = some C ∧ Cls Z.K C ∧ Meth Z.K C m f ∧ FnG Z.P Z.w Z.K Z.mg Z.base CX0 Z.k f fd ps (spM Z.K Z.cl N np mf) ∧ Binds Z.K fd ps []
def oD (c : String) (m : Str) (a : ME) (r : MG) : MG := fun env => (a env).bind fun p => if isObj c m p.1 = true then (r p.2).map fun q => (.imm p.1 :: q.1, q.2) else none
def lT (c : String) (m : Str) (i : Nat) (r : MG) : MG := fun env => (env[i]?.bind Sl.own?).bind fun d => if isObj c m d = true then (r env).map fun q => (.io i :: q.1, q.2) else none
structure MkZ (Z : Zc) (x : Str) (c : String) (N : List Str) (np : Nat) (mf : MS) : Prop where
 ex : ∃ (k : Nat) (C f : Addr) (fd : FuncData) (ps : List Str), k + 1 ≤ Z.k ∧ Z.cl c = some C ∧ Z.mg x = some (.ref C) ∧ Mk Z.K C f ∧ FnG Z.P Z.w Z.K Z.mg Z.base CX0 k f fd ps (spM Z.K Z.cl N np mf) ∧ Binds Z.K fd ps []
theorem SR.push {K : PySem.W.Frag} {cl : String → Option Addr} {g : G} {env : En} {σ : St} {I H : Hp} {p : Addr} {o : HO} {d : D} (R : SR K cl g env σ I H) (n : New g env σ I H p o) (r : aE K cl I d o) : SR K cl g (env ++ [.own d]) (σ ++ [some (.ref p)]) I H := by
 have get : ∀ (i : Nat) (s : Sl), (env ++ [Sl.own d])[i]? = some s → (i < σ.length ∧ env[i]? = some s ∧ (σ ++ [some (V.ref p)])[i]? = σ[i]?) ∨ (i = σ.length ∧ s = .own d ∧ (σ ++ [some (V.ref p)])[i]? = some (some (.ref p))) := fun i s h => by
  by_cases hi : i < env.length
  ·rw [List.getElem?_append_left hi] at h
   exact .inl ⟨by rw [← R.len]; exact hi, h, List.getElem?_append_left (by rw [← R.len]; exact hi)⟩
  ·rw [List.getElem?_append_right (by omega)] at h
   obtain ⟨h1, h2⟩ := List.getElem?_eq_some_iff.mp h
   have e : i = env.length := by simp at h1; omega
   subst e
   simp at h2
   refine .inr ⟨R.len, h2.symm, ?_⟩
   rw [R.len, List.getElem?_append_right (Nat.le_refl _)]; simp
 refine ⟨R.sub, R.i0, R.h0, R.hi, R.oh, by rw [List.length_append, List.length_append, R.len]; rfl, fun i s h => ?_, fun i j s s' a hne h1 h2 m1 m2 q1 q2 => ?_, fun a u hx => ?_, R.ex0, R.tb⟩
 ·rcases get i s h with ⟨_, h1, h2⟩ | ⟨_, rfl, h2⟩
  ·rw [h2]; exact R.at_ i s h1
  ·exact ⟨_, h2, p, o, rfl, n.at_, r, n.i, n.h0⟩
 ·have mt : s.top = true := by cases s <;> first | rfl | cases m1
  rcases get i s h1 with ⟨_, f1, f2⟩ | ⟨e1, rfl, f2⟩
  ·rcases get j s' h2 with ⟨_, k1, k2⟩ | ⟨_, rfl, k2⟩
   ·exact R.dis i j s s' a hne f1 k1 m1 m2 (by rw [← f2]; exact q1) (by rw [← k2]; exact q2)
   ·rw [k2] at q2; cases q2
    rw [f2] at q1
    exact n.no i s f1 mt q1
  ·rcases get j s' h2 with ⟨_, k1, k2⟩ | ⟨e2, rfl, k2⟩
   ·rw [f2] at q1; cases q1
    rw [k2] at q2
    exact n.no j s' k1 m2 q2
   ·exact hne (e1.trans e2.symm)
 ·obtain ⟨h1, h2, h3⟩ := R.ex a u hx
  refine ⟨h1, h2, fun i s h ht => ?_⟩
  rcases get i s h with ⟨_, f1, f2⟩ | ⟨_, rfl, f2⟩
  ·rw [f2]; exact h3 i s f1 ht
  ·rw [f2]; intro z; cases z; exact n.x u hx
theorem bQ.grow {I : Hp} {σ : St} {x : Option V} : ∀ {as : List Ag} {vs : List V}, bQ Z I σ as vs → bQ Z I (σ ++ [x]) as vs
 | _, _, .nil => .nil
 | _, _, .cons o os => .cons (by
   cases o with
   | imm r => exact .imm r
   | bor h => exact .bor (by rw [List.getElem?_append_left (List.getElem?_eq_some_iff.mp h).1]; exact h)
   | io h => exact .io (by rw [List.getElem?_append_left (List.getElem?_eq_some_iff.mp h).1]; exact h)) (bQ.grow os)
def gO (f : Str) : List Str → List Str
 | [] => [f]
 | k :: ks => if k = f then k :: ks else k :: gO f ks
def gS (f : Str) (d : D) : List Str → List D → List D
 | k :: ks, x :: xs => if k = f then d :: xs else x :: gS f d ks xs
 | _, _ => [d]
def kX (c : String) (f : Str) (i : Nat) (e : ME) : MS := fun env => (e env).bind fun p => (p.2[i]?.bind Sl.own?).bind fun d => match d with
 | .obj c' ks xs => if c' = c ∧ ks.length < 1000 ∧ xs.length < 1000 then some (.nx (aI p.2 i (.obj c (gO f ks) (gS f p.1 ks xs)))) else none
 | _ => none
end
end Q
namespace Q
open PySem L2
section
variable {Z : Zc}
def jO (k : Key) : List Key → Bool
 | [] => false
 | q :: ks => decide (q = k) || jO k ks
def ku (k : Key) (ks : List Key) : List Key := if jO k ks = true then ks else ks ++ [k]
def repl (k : Key) (d : D) : List Key → List D → List D
 | q :: ks, x :: xs => (if q = k then d else x) :: repl k d ks xs
 | _, xs => xs
def ky (k : Key) (d : D) (ks : List Key) (xs : List D) : List D := if jO k ks = true then repl k d ks xs else xs ++ [d]
end
end Q
namespace Q
open PySem L2
section
variable {Z : Zc}
def pV (a : ME) : ME := fun env => (a env).bind fun p => match p.1 with
 | .int i => some (.int (-i), p.2)
 | _ => none
end
structure Pc where
 P : Program
 w : World
 K : PySem.W.Frag
 mg : Str → Option Value
 base : Heap
 cl : String → Option Addr
abbrev Pc.z (c : Pc) (k : Nat) (N : List Str) (sc : Scope) (me : Option (Addr × Addr) := none) : Zc := ⟨c.P, c.w, c.K, c.mg, c.base, N, sc, k, c.cl, true, me⟩
structure FnC (c : Pc) (k : Nat) (x : Str) (N : List Str) (np : Nat) (mf : MS) : Prop where
 ex : ∃ (f : Addr) (fd : FuncData) (ps : List Str), FnG c.P c.w c.K c.mg c.base CX0 k f fd ps (spM c.K c.cl N np mf) ∧ c.mg x = some (.ref f) ∧ PySem.W.keepIn c.K (.ref f) = true ∧ Binds c.K fd ps []
structure MtC (c : Pc) (k : Nat) (cn : String) (m : Str) (N : List Str) (np : Nat) (mf : MS) : Prop where
 ex : ∃ (C f : Addr) (fd : FuncData) (ps : List Str), c.cl cn = some C ∧ Cls c.K C ∧ Meth c.K C m f ∧ FnG c.P c.w c.K c.mg c.base CX0 k f fd ps (spM c.K c.cl N np mf) ∧ Binds c.K fd ps []
structure MkC (c : Pc) (k : Nat) (x : Str) (cn : String) (N : List Str) (np : Nat) (mf : MS) : Prop where
 ex : ∃ (C f : Addr) (fd : FuncData) (ps : List Str), c.cl cn = some C ∧ c.mg x = some (.ref C) ∧ Mk c.K C f ∧ FnG c.P c.w c.K c.mg c.base CX0 k f fd ps (spM c.K c.cl N np mf) ∧ Binds c.K fd ps []
section
variable {c : Pc} {j k np : Nat} {x m : Str} {cn : String} {N M : List Str} {mf : MS} {sc s1 : Scope} {me : Option (Addr × Addr)}
theorem FnC.z (F : FnC c j x M np mf) (h : j ≤ k) : FnZ (c.z k N sc me) x M np mf := let ⟨f, fd, ps, h1, h2⟩ := F.ex; ⟨f, fd, ps, h1.mono h, h2⟩
theorem MtC.z (F : MtC c j cn m M np mf) (h : j ≤ k) : MtZ (c.z k N sc me) cn m M np mf := let ⟨C, f, fd, ps, q1, q2, q3, h1, h2⟩ := F.ex; ⟨C, f, fd, ps, q1, q2, q3, h1.mono h, h2⟩
theorem MkC.z (F : MkC c j x cn M np mf) (h : j + 1 ≤ k) : MkZ (c.z k N sc me) x cn M np mf := let ⟨C, f, fd, ps, q1, q2, q3, h1, h2⟩ := F.ex; ⟨j, C, f, fd, ps, h, q1, q2, q3, h1, h2⟩
end
theorem kh {K : PySem.W.Frag} {cl : String → Option Addr} {N : List Str} {m : MS} {a : Addr} {ns : List Int} {H : Hp} {Q : VK} {E : XK} {env' : En} {md : Md} (hN : N.length = N.length) (hT : ∀ b, bp cl b → GxR.TabG H b) (hS0 : ∃ J, Same J H ∧ (∀ b, bp cl b → J b = none) ∧ SqL K J a (ns.map V.int))
  (hm : m (Sl.imm (.scr (ns.map D.int)) :: List.replicate (N.length - 1) Sl.un) = some (.ret .imm (.bl true) env')) (hQ : ∀ H', Q (.bl true) H') : spM K cl N 1 m [.ref a] H Q E := by
 obtain ⟨J, hJ, hJt, hS⟩ := hS0
 have rs : ∀ (l : List Int), aq K cl J (l.map D.int) (l.map V.int) := fun l => by
  induction l with
  | nil => exact .nil
  | cons x l ih => exact .cons .int ih
 refine ⟨rfl, ⟨J, H, [], []⟩, _, J, _, ⟨hJ, Same.refl _, fun a o h _ _ => h, fun a o _ h => h, (fun a h => by cases h), ?_, fun i s h => ?_, ?_, (fun a o h => by cases h), (fun a o h => by cases h), fun b hb => ⟨hJt b hb, hT b hb, let ⟨ps, h, _⟩ := hT b hb; ⟨_, h⟩⟩⟩, hm, ?_⟩
 ·unfold L2.start; simp
 ·cases i with
  | zero =>
   cases h
   exact ⟨_, rfl, .ref a, rfl, .scr hS (rs ns)⟩
  | succ i =>
   rw [List.getElem?_cons_succ, List.getElem?_replicate] at h
   split at h
   ·rename_i hlt
    cases h
    refine ⟨none, ?_, trivial⟩
    unfold L2.start
    rw [List.getElem?_append_right (by simp), List.getElem?_replicate]
    simp only [List.length_map, List.length_cons, List.length_nil, Nat.zero_add, Nat.add_sub_cancel]
    rw [if_pos hlt]
   ·cases h
 ·intro i j s s' a' hne h1 h2 m1 m2
  have : s.mut = false := by
   cases i with
   | zero => cases h1; rfl
   | succ i =>
    rw [List.getElem?_cons_succ, List.getElem?_replicate] at h1
    split at h1
    ·cases h1; rfl
    ·cases h1
  rw [this] at m1; cases m1
 ·intro σ' I' H' v R s r
  cases r.bl_inv
  exact hQ H'
end Q
namespace Q
open PySem L2
section
variable {Z : Zc}
def g9 (env : En) (i : Nat) : Option (List Key × List D) := (env[i]?).bind fun s => (s.own?).bind fun d => match d with
 | .dic ks xs => some (ks, xs)
 | _ => none
def kz (i : Nat) (e j : ME) : MS := fun env => (e env).bind fun p => (g9 p.2 i).bind fun _ => (j p.2).bind fun q => (g9 q.2 i).bind fun kx => (q.1.key?).bind fun k =>
 if kx.2.length < sizeLine then some (.nx (aI q.2 i (.dic (ku k kx.1) (ky k p.1 kx.1 kx.2)))) else none
end
end Q
namespace Q
open PySem L2
section
variable {Z : Zc}
def mM1 (f : Str → Str → Option D) (a b : ME) : ME := fun env => (a env).bind fun p => (b p.2).bind fun q => match p.1, q.1 with
 | .str x, .str y => (f x y).map fun d => (d, q.2)
 | _, _ => none
def mE (r : V → List V → Hp → VK → Prop) (f : Str → Str → Option D) : Prop := ∀ (x y : Str) (d : D) (K : PySem.W.Frag) (cl : String → Option Addr) (I H : Hp) (Q : VK), f x y = some d → (∀ v, Rep K cl I d v → Q v H) → r (.str x) [.str y] H Q
def lE (r : V → List V → Hp → VK → Prop) (f : Str → Str → Option D) : Prop := ∀ (x y : Str) (d : D) (K : PySem.W.Frag) (cl : String → Option Addr) (I H : Hp) (Q : VK), f x y = some d → (∀ p o, H p = none → aE K cl I d o → Q (.ref p) (upd H p o)) → r (.str x) [.str y] H Q
theorem iL {f : Str → Str → Option D} {a b : ME} {env env' : En} {d : D} (h : mM1 f a b env = some (d, env')) : ∃ x e1 y, a env = some (.str x, e1) ∧ b e1 = some (.str y, env') ∧ f x y = some d := by
 unfold mM1 at h
 obtain ⟨⟨d1, e1⟩, h1, h⟩ := Option.bind_eq_some_iff.mp h
 obtain ⟨⟨d2, e2⟩, h2, h⟩ := Option.bind_eq_some_iff.mp h
 cases d1 with
 | str x =>
  cases d2 with
  | str y =>
   obtain ⟨z, h3, h4⟩ := Option.map_eq_some_iff.mp h
   cases h4
   exact ⟨x, e1, y, h1, h2, h3⟩
  | _ => cases h
 | _ => cases h
theorem nN {id : String} {name : Str} {o e : Expr} {apos pos : Pos} {r : V → List V → Hp → VK → Prop} {f : Str → Str → Option D} {mo me : ME} (slot : Slot "str" name id) (ty : typeOf (.builtin id) = pure (.type "method_descriptor")) (rule : ∀ X : Cx, MtR X id r) (ok : mE r f) (ho : EV Z o mo) (he : EV Z e me)
  (hs : ∀ env, starEach [e] env = [(false, eval e env)] := by intro _; rfl) (hbase : ∀ env, attributeBase o name env (eval o env) = eval o env := by intro _; rfl) (hline : (apos.endLine == pos.line) = true := by rfl) : EV Z (.Call (.Attribute o name apos) [e] [] pos) (mM1 f mo me) := by
 obtain ⟨t, h1, h2⟩ := ho
 obtain ⟨u, j1, j2⟩ := he
 refine ⟨_, fun X i => pe_m1 slot ty (rule X) (h1 X i) (j1 X i) (hs _) (hbase _) hline, fun g env σ I H Q d env' R hm k => ?_⟩
 obtain ⟨x, e1, y, q1, q2, q3⟩ := iL hm
 refine h2 g env σ I H _ _ _ R q1 fun v I1 H1 R1 s1 rv => ?_
 cases rv.str_inv
 refine ⟨⟨x, rfl⟩, j2 g e1 σ I1 H1 _ _ _ R1 q2 fun w I2 H2 R2 s2 rw' => ?_⟩
 cases rw'.str_inv
 exact ok x y d Z.K Z.cl I2 H2 _ q3 fun v hv => k v I2 H2 R2 (s1.trans s2) hv
theorem nP {id : String} {name : Str} {o e : Expr} {apos pos : Pos} {r : V → List V → Hp → VK → Prop} {f : Str → Str → Option D} {mo me : ME} (slot : Slot "str" name id) (ty : typeOf (.builtin id) = pure (.type "method_descriptor")) (rule : ∀ X : Cx, MtR X id r) (ok : lE r f) (ho : EV Z o mo) (he : EV Z e me)
  (hs : ∀ env, starEach [e] env = [(false, eval e env)] := by intro _; rfl) (hbase : ∀ env, attributeBase o name env (eval o env) = eval o env := by intro _; rfl) (hline : (apos.endLine == pos.line) = true := by rfl) : EF Z (.Call (.Attribute o name apos) [e] [] pos) (mM1 f mo me) := by
 obtain ⟨t, h1, h2⟩ := ho
 obtain ⟨u, j1, j2⟩ := he
 refine ⟨_, fun X i => pe_m1 slot ty (rule X) (h1 X i) (j1 X i) (hs _) (hbase _) hline, fun g env σ I H Q d env' R hm k => ?_⟩
 obtain ⟨x, e1, y, q1, q2, q3⟩ := iL hm
 refine h2 g env σ I H _ _ _ R q1 fun v I1 H1 R1 s1 rv => ?_
 cases rv.str_inv
 refine ⟨⟨x, rfl⟩, j2 g e1 σ I1 H1 _ _ _ R1 q2 fun w I2 H2 R2 s2 rw' => ?_⟩
 cases rw'.str_inv
 exact ok x y d Z.K Z.cl I2 H2 _ q3 fun p o hp ho => k p o I2 _ (R2.alloc hp _) (s1.trans s2) (R2.new hp) ho
theorem gC {K : PySem.W.Frag} {cl : String → Option Addr} {I : Hp} : ∀ ys : List Str, aq K cl I (ys.map .str) (ys.map V.str)
 | [] => .nil
 | _ :: ys => .cons .str (gC ys)
def eQ : Str → Str → Option D := fun x y => if (y.length == 0) = false ∧ x.length + 2 ≤ sizeLine then some (.lst ((Txt.split x y).map .str)) else none
theorem jN {o e : Expr} {apos pos : Pos} {mo me : ME} (ho : EV Z o mo) (he : EV Z e me) (hs : ∀ env, starEach [e] env = [(false, eval e env)] := by intro _; rfl) (hbase : ∀ env, attributeBase o "split" env (eval o env) = eval o env := by intro _; rfl) (hline : (apos.endLine == pos.line) = true := by rfl) :
  EF Z (.Call (.Attribute o "split" apos) [e] [] pos) (mM1 eQ mo me) :=
 nP F.slot_str_split F.type_str_split (fun X => mt_split) (fun x y d K cl I H Q h k => by
  unfold eQ at h
  split at h
  ·rename_i hl
   cases h
   exact ⟨x, y, rfl, rfl, hl.1, hl.2, fun p hp => k p _ hp (.lst (gC _))⟩
  ·cases h) ho he hs hbase hline
end
end Q
namespace Q
open PySem L2
section
variable {Z : Zc}
def kr : List D → Option (List Str)
 | [] => some []
 | .str z :: ds => (kr ds).map fun zs => z :: zs
 | _ => none
def kF (x : Str) (d : D) : Option D := (d.items?).bind fun ds => (kr ds).bind fun zs => if (zs.map (·.length)).sum + zs.length * x.length ≤ 16777216 then some (.str (Txt.join x zs)) else none
def oo (a : ME) (b : ML) : ME := fun env => (a env).bind fun p => (b p.2).bind fun q => match p.1 with
 | .str x => (q.1.get q.2).bind fun d => (kF x d).map fun z => (z, q.2)
 | _ => none
end
end Q
namespace Q
open PySem L2
section
variable {Z : Zc}
def er (p : PyData) : Bool := p.showable && !p.hasDict && decide (p.depth ≤ 60) && decide (p.shown.length ≤ sizeLine)
theorem er.all {p : PyData} (h : er p = true) : p.showable = true ∧ p.hasDict = false ∧ p.depth ≤ 60 ∧ p.shown.length ≤ sizeLine := by
 unfold er at h
 simp only [Bool.and_eq_true, Bool.not_eq_true', decide_eq_true_eq] at h
 exact ⟨h.1.1.1, h.1.1.2, h.1.2, h.2⟩
def fc : List D → Option D
 | [x] => (toP x).bind fun p => if er p = true then some (.str p.shown) else none
 | _ => none
def kQ (K : PySem.W.Frag) : List V → Hp → VK → Prop := fun xs H Q => ∃ x p, xs = [x] ∧ Dp K H x p ∧ er p = true ∧ Q (.str p.shown) H
theorem iR {X : Cx} (h : InF Z X) : CallR X (.builtin "repr") (kQ Z.K) := by
 rw [← h.K]
 intro pins s σ H xs us Q I r hh
 obtain ⟨x, p, rfl, hp, ok, q⟩ := hh
 obtain ⟨h1, h2, h3, h4⟩ := er.all ok
 cases r with
 | cons rv rt =>
  rename_i u ut
  cases rt
  have un := h.room.units
  cases hp with
  | non => cases rv; exact PySem.P.repr_of_none ⟨.str _, H, I.tok _, ⟨_, rfl⟩, by simpa only [PyData.shown] using q⟩
  | bl b => cases rv; exact PySem.P.repr_of_bool ⟨.str _, H, I.tok _, ⟨_, rfl⟩, by simpa only [PyData.shown] using q⟩
  | int i => obtain ⟨t, rfl⟩ := rv; exact PySem.P.repr_of_int (by simpa [PyData.showable] using h1) ⟨.str _, H, I.tok _, ⟨_, rfl⟩, by simpa only [PyData.shown] using q⟩
  | str z => obtain ⟨t, rfl⟩ := rv; exact PySem.P.repr_of_str ⟨.str _, H, I.tok _, ⟨_, rfl⟩, by simpa only [PyData.shown] using q⟩ (by simpa only [PyData.shown] using h4)
  | lst hs ha =>
   obtain ⟨as, rd⟩ := Dp.reads I _ _ _ (.lst hs ha) rv
   cases rv
   exact repr_of_reads' rd h1 (PyData.noDict_hsm h2) h.gd (by omega) (fun _ _ e => e) (fun h' u tk k => ⟨.str _, H, I.kept k, ⟨_, rfl⟩, q⟩) h4
  | tup hs ha =>
   obtain ⟨as, rd⟩ := Dp.reads I _ _ _ (.tup hs ha) rv
   cases rv
   exact repr_of_reads' rd h1 (PyData.noDict_hsm h2) h.gd (by omega) (fun _ _ e => e) (fun h' u tk k => ⟨.str _, H, I.kept k, ⟨_, rfl⟩, q⟩) h4
theorem iT : dg Z (kQ Z.K) fc := by
 intro I H xs z vs Q s rs h k
 unfold fc at h
 split at h
 ·rename_i x
  obtain ⟨p, e1, h⟩ := Option.bind_eq_some_iff.mp h
  split at h
  ·rename_i ok
   cases h
   obtain ⟨v, rfl, r⟩ := rs.one
   exact ⟨v, p, rfl, r.dp s e1, ok, k _ .str⟩
  ·cases h
 ·cases h
end
end Q
namespace Q
open PySem L2
section
variable {Z : Zc}
def qf : D → Option Int
 | .int i => some i
 | .bl b => some (if b = true then 1 else 0)
 | _ => none
def kH : D → Option (List Int)
 | .tup ds => ds.mapM qf
 | _ => none
theorem Rb.dcn {I H : Hp} {ks xs} {v : V} (s : Same I H) (r : Rb Z I H (.dcn ks xs) v) : ∃ c a vs bs us, v = .ref c ∧ H c = some (.ext (Raw a (fG ks bs us))) ∧ bq Z.K H ks bs ∧ aq Z.K Z.cl I xs vs ∧ Vals vs us ∧ ks.length = xs.length ∧ ks.Nodup := by
 rcases r with r | ⟨c, rfl, o, e, r⟩
 ·obtain ⟨c, a, vs, bs, us, rfl, h1, h2, h3⟩ := r.dcn_inv
  exact ⟨c, a, vs, bs, us, rfl, s _ _ h1, h2.mono s, h3⟩
 ·obtain ⟨a, vs, bs, us, rfl, h2, h3⟩ := r.dcn_inv
  exact ⟨c, a, vs, bs, us, rfl, e, h2.mono s, h3⟩
end
def kM {α : Type} (k : List Int) (x : α) : List (List Int) → List α → List α
 | q :: ks, y :: ys => (if q = k then x else y) :: kM k x ks ys
 | _, ys => ys
def putN (k : List Int) (ks : List (List Int)) : List (List Int) := if k ∈ ks then ks else ks ++ [k]
def mI {α : Type} (k : List Int) (x : α) (ks : List (List Int)) (xs : List α) : List α := if k ∈ ks then kM k x ks xs else xs ++ [x]
def ni (k : List Int) (b : Addr) (ks : List (List Int)) (bs : List Addr) : List Addr := if k ∈ ks then bs else bs ++ [b]
theorem bq.put {K : PySem.W.Frag} {I : Hp} {k : List Int} {b : Addr} {ks : List (List Int)} {bs : List Addr} (h : bq K I ks bs) (hk : fJ K I k b) : bq K I (putN k ks) (ni k b ks bs) := by
 unfold putN ni
 split
 ·exact h
 ·have : ∀ {ks bs}, bq K I ks bs → bq K I (ks ++ [k]) (bs ++ [b]) := by
   intro ks bs h
   induction h with
   | nil => exact .cons hk .nil
   | cons h t ih => exact .cons h ih
  exact this h
section
variable {Z : Zc}
def ic (env : En) (i : Nat) : Option (List (List Int) × List D) := (env[i]?).bind fun s => (s.own?).bind fun d => match d with
 | .dcn ks xs => some (ks, xs)
 | _ => none
def kL (i : Nat) (e j : ME) : MS := fun env => (e env).bind fun p => (ic p.2 i).bind fun _ => (j p.2).bind fun q => (ic q.2 i).bind fun kx => (kH q.1).bind fun k =>
 if kx.2.length < sizeLine then some (.nx (aI q.2 i (.dcn (putN k kx.1) (mI k p.1 kx.1 kx.2)))) else none
end
end Q
namespace Q
open PySem PySem.Spec PyProof.Rows L2
namespace Nd
open PySem L2
end Nd
section
open Nd PySem L2
variable {Z : Zc}
theorem fJ.mono {K : PySem.W.Frag} {I I' : Hp} {k : List Int} {b : Addr} (s : Same I I') (h : fJ K I k b) : fJ K I' k b := let ⟨vs, h1, h2⟩ := h; ⟨vs, hH s h1, h2⟩
end
end Q
namespace L2
open PySem PySem.Spec PyProof.Rows
end L2
namespace Q
open PySem PySem.Spec L2
end Q
namespace Q
open PySem L2
end Q
namespace Q
open PySem L2
end Q
namespace Q
open PySem L2
end Q
namespace Q
open PySem L2
end Q
namespace Q
open PySem L2
end Q
namespace Q
open PySem PySem.Spec PyProof.Rows L2
section
variable {prog : Program} {w : World} {A : Around} {E : Value → Shared → Prop} {s : Shared}
theorem jH {a : Addr} {Q : Option Obj → Shared → Prop} (h : Q (s.heap.get? a) s) : wpAny (model prog w) A (loadIfAlive a) Q E s := fun _ _ _ => h
theorem iy {z u v T : Addr} {f : Bool} {Q : Bool → Shared → Prop} (hz : IsZipHeld s.heap z u v T f) (hT : s.heap.get? T = none) (h : Q true s) : wpAny (model prog w) A (Builtin.SmallTypes.ownedTupleIsFree (.ref z)) Q E s := by
 unfold Builtin.SmallTypes.ownedTupleIsFree
 refine wpAny_bind (wpAny_field hz rfl (x := rawInt T) rfl ?_)
 show wpAny _ _ (loadIfAlive (Int.toNat (T : Int)) >>= _) _ _ _
 rw [Int.toNat_natCast]
 refine wpAny_bind (jH ?_)
 rw [hT]
 exact wpAny_pure h
theorem jE {z u v T c d l m : Addr} {f : Bool} {i j : Nat} {xs ys : Array Value} {x y a b : Value} {Q : Value → Shared → Prop} (D : ZipApart z u v c d l m) (hz : IsZipHeld s.heap z u v T f) (hT : s.heap.get? T = none) (hu : IsPair s.heap u (.ref c) (.ref d)) (hv : IsPair s.heap v a b)
  (hc : s.heap.IsListIter c l i) (hd : s.heap.IsListIter d m j) (hl : s.heap.IsList l xs) (hm : s.heap.IsList m ys) (hx : xs[i]? = some x) (hy : ys[j]? = some y)
  (hQ : ∀ h', IsZipHeld h' z u v s.heap.objs.size false → IsPair h' v x y → h'.IsListIter c l (i + 1) → h'.IsListIter d m (j + 1) → IsPair h' s.heap.objs.size x y →
   (∀ e o, e ≠ z → e ≠ v → e ≠ c → e ≠ d → s.heap.get? e = some o → h'.get? e = some o) → Q (.ref s.heap.objs.size) { s with heap := h' }) :
  wpAny (model prog w) A (Builtin.«zip.__next__» ⟨[.ref z], []⟩) (fun r t => ∃ q, r = .done (.ret q) ∧ Q q t) E s := by
 show wpAny _ A (field (.ref z) 2 >>= _) _ E s
 refine wpAny_bind (wpAny_field hz rfl (x := Value.bool false) rfl ?_)
 show wpAny _ A (field (.ref z) 3 >>= _) _ E s
 refine wpAny_bind (wpAny_field hz rfl (x := Value.ref u) rfl (wpAny_bind (wpAny_seqItems hu rfl ?_)))
 show wpAny _ A (Builtin.SmallTypes.ownedTupleIsFree (.ref z) >>= _) _ E s
 refine wpAny_bind (iy hz hT ?_)
 simp only [if_true]
 refine wpAny_bind (wpAny_rule (wpAny_bind (wpAny_field hz rfl (x := Value.ref v) rfl (wpAny_bind (wpAny_setField_rec hz (by simp) fun g1 z1 k1 => wpAny_bind ?_)))))
 simp only [List.forIn_cons, List.forIn_nil, List.zipIdx_nil, List.zipIdx_cons]
 refine wpAny_bind (wpAny_bind (wpAny_onRaise ?_))
 show wpAny _ A (Builtin.SmallTypes.nextOf (.ref c) >>= _) _ _ _
 refine wpAny_bind (wpAny_nextOf_list_item (hc.extBut k1.extBut D.i1z) (hl.extBut k1.extBut D.l1z) hx fun g2 c2 k2 => wpAny_pure ?_)
 have v2 : IsPair g2 v a b := k2.extBut _ _ D.TOi1 (k1.extBut _ _ D.TOz hv)
 refine wpAny_bind (wpAny_seqItems v2 rfl (wpAny_bind (wpAny_updateSeq_pair v2 fun g3 v3 k3 => ?_)))
 replace v3 : IsPair g3 v x b := v3
 refine wpAny_bind (wpAny_letGo (wpAny_pure (wpAny_bind (wpAny_bind (wpAny_onRaise ?_)))))
 show wpAny _ A (Builtin.SmallTypes.nextOf (.ref d) >>= _) _ _ _
 have d3 : g3.IsListIter d m j := ((hd.extBut k1.extBut D.i2z).extBut k2.extBut D.i12.symm).extBut k3.extBut D.TOi2.symm
 have m3 : g3.IsList m ys := ((hm.extBut k1.extBut D.l2z).extBut k2.extBut D.l2i1).extBut k3.extBut D.l2TO
 refine wpAny_bind (wpAny_nextOf_list_item d3 m3 hy fun g4 d4 k4 => wpAny_pure ?_)
 have v4 : IsPair g4 v x b := k4.extBut _ _ D.TOi2 v3
 refine wpAny_bind (wpAny_seqItems v4 rfl (wpAny_bind (wpAny_updateSeq_pair v4 fun g5 v5 k5 => ?_)))
 replace v5 : IsPair g5 v x y := v5
 refine wpAny_bind (wpAny_letGo (wpAny_pure (wpAny_pure (wpAny_bind (wpAny_seqItems v5 rfl (wpAny_bind (wpAny_newTuple ?_)))))))
 have sz : g5.objs.size = s.heap.objs.size := by rw [k5.1, k4.1, k3.1, k2.1, k1.1]
 have z5 := k5.extBut _ _ D.TOz.symm (k4.extBut _ _ D.i2z.symm (k3.extBut _ _ D.TOz.symm (k2.extBut _ _ D.i1z.symm z1)))
 have kk : ∀ e o, e ≠ z → e ≠ v → e ≠ c → e ≠ d → s.heap.get? e = some o → g5.get? e = some o := fun e o n1 n2 n3 n4 h =>
  k5.extBut e o n2 (k4.extBut e o n4 (k3.extBut e o n2 (k2.extBut e o n3 (k1.extBut e o n1 h))))
 have c5 : g5.IsListIter c l (i + 1) := ((c2.extBut k3.extBut D.TOi1.symm).extBut k4.extBut D.i12).extBut k5.extBut D.TOi1.symm
 have d5 : g5.IsListIter d m (j + 1) := d4.extBut k5.extBut D.TOi2.symm
 have hzl : z < g5.objs.size := Heap.lt_size z5
 show wpAny _ A (Builtin.SmallTypes.ownedTupleHandOut (.ref z) (.ref g5.objs.size) >>= _) _ E _
 refine wpAny_bind ?_
 unfold Builtin.SmallTypes.ownedTupleHandOut
 have z6 := Heap.get?_push_of_some (Obj.mk (.type "tuple") none (.seq #[x, y]) #[]) z5
 refine wpAny_bind (wpAny_setField_rec (s := { s with heap := _ }) z6 (by simp) fun g7 z7 k7 => wpAny_setField_rec (s := { s with heap := _ }) z7 (by simp) fun g8 z8 k8 => ?_)
 have up : ∀ e o, e ≠ z → g5.get? e = some o → g8.get? e = some o := fun e o n h => k8.extBut e o n (k7.extBut e o n (Heap.get?_push_of_some _ h))
 have t8 : IsPair g8 g5.objs.size x y := k8.extBut _ _ (Nat.ne_of_gt hzl) (k7.extBut _ _ (Nat.ne_of_gt hzl) (Heap.get?_push_size _ rfl))
 replace z8 : IsZipHeld g8 z u v g5.objs.size false := z8
 rw [sz] at z8 t8
 refine wpAny_pure ⟨.ref g5.objs.size, rfl, ?_⟩
 rw [sz]
 exact hQ g8 z8 (up _ _ D.TOz v5) (c5.at fun o e => up _ o D.i1z e) (d5.at fun o e => up _ o D.i2z e) t8 fun e o n1 n2 n3 n4 h => up e o n1 (kk e o n1 n2 n3 n4 h)
theorem km {z u v T c d l m : Addr} {f : Bool} {i j : Nat} {xs ys : Array Value} {a b : Value} {Q : Fin → Shared → Prop} (hh : A.handled = none) (D : ZipApart z u v c d l m) (hz : IsZipHeld s.heap z u v T f) (hT : s.heap.get? T = none) (hu : IsPair s.heap u (.ref c) (.ref d)) (hv : IsPair s.heap v a b)
  (hc : s.heap.IsListIter c l i) (hd : s.heap.IsListIter d m j) (hl : s.heap.IsList l xs) (hm : s.heap.IsList m ys) (hend : xs[i]? = none ∨ ys[j]? = none)
  (hE : ∀ h' e, (∀ b o, b ≠ z → b ≠ v → b ≠ c → b ≠ d → s.heap.get? b = some o → h'.get? b = some o) → (∃ o, h'.get? e = some o ∧ o.cls = .type "StopIteration") → E (.ref e) { s with heap := h' }) :
  wpAny (model prog w) A (Builtin.«zip.__next__» ⟨[.ref z], []⟩) Q E s := by
 show wpAny _ A (field (.ref z) 2 >>= _) _ E s
 refine wpAny_bind (wpAny_field hz rfl (x := Value.bool false) rfl ?_)
 show wpAny _ A (field (.ref z) 3 >>= _) _ E s
 refine wpAny_bind (wpAny_field hz rfl (x := Value.ref u) rfl (wpAny_bind (wpAny_seqItems hu rfl ?_)))
 show wpAny _ A (Builtin.SmallTypes.ownedTupleIsFree (.ref z) >>= _) _ E s
 refine wpAny_bind (iy hz hT ?_)
 simp only [if_true]
 refine wpAny_bind (wpAny_rule (wpAny_bind (wpAny_field hz rfl (x := Value.ref v) rfl (wpAny_bind (wpAny_setField_rec hz (by simp) fun g1 z1 k1 => wpAny_bind ?_)))))
 simp only [List.forIn_cons, List.forIn_nil, List.zipIdx_nil, List.zipIdx_cons]
 refine wpAny_bind (wpAny_bind (wpAny_onRaise ?_))
 show wpAny _ A (Builtin.SmallTypes.nextOf (.ref c) >>= _) _ _ _
 rcases ho : xs[i]? with _ | x
 ·refine wpAny_bind (wpAny_nextOf_list_end hh (hc.extBut k1.extBut D.i1z) (hl.extBut k1.extBut D.l1z) ho fun g2 e k2 ⟨oe, h1, h2⟩ => ?_)
  have z2 := k2 _ _ D.i1z.symm z1
  have hne : e ≠ z := fun q => by subst q; rw [z2] at h1; cases h1; simp at h2
  exact wpAny_setField_rec z2 (by simp) fun g3 _ k3 => hE g3 e (fun b o n1 _ n3 _ q => k3.extBut _ _ n1 (k2 _ _ n3 (k1.extBut _ _ n1 q))) ⟨oe, k3.extBut _ _ hne h1, h2⟩
 ·have hy : ys[j]? = none := hend.elim (fun q => by rw [ho] at q; cases q) id
  refine wpAny_bind (wpAny_nextOf_list_item (hc.extBut k1.extBut D.i1z) (hl.extBut k1.extBut D.l1z) ho fun g2 c2 k2 => wpAny_pure ?_)
  have v2 : IsPair g2 v a b := k2.extBut _ _ D.TOi1 (k1.extBut _ _ D.TOz hv)
  refine wpAny_bind (wpAny_seqItems v2 rfl (wpAny_bind (wpAny_updateSeq_pair v2 fun g3 v3 k3 => ?_)))
  refine wpAny_bind (wpAny_letGo (wpAny_pure (wpAny_bind (wpAny_bind (wpAny_onRaise ?_)))))
  show wpAny _ A (Builtin.SmallTypes.nextOf (.ref d) >>= _) _ _ _
  have d3 : g3.IsListIter d m j := ((hd.extBut k1.extBut D.i2z).extBut k2.extBut D.i12.symm).extBut k3.extBut D.TOi2.symm
  have m3 : g3.IsList m ys := ((hm.extBut k1.extBut D.l2z).extBut k2.extBut D.l2i1).extBut k3.extBut D.l2TO
  refine wpAny_bind (wpAny_nextOf_list_end hh d3 m3 hy fun g4 e k4 ⟨oe, h1, h2⟩ => ?_)
  have z4 := k4 _ _ D.i2z.symm (k3.extBut _ _ D.TOz.symm (k2.extBut _ _ D.i1z.symm z1))
  have hne : e ≠ z := fun q => by subst q; rw [z4] at h1; cases h1; simp at h2
  exact wpAny_setField_rec z4 (by simp) fun g5 _ k5 => hE g5 e (fun b o n1 n2 n3 n4 q => k5.extBut _ _ n1 (k4 _ _ n4 (k3.extBut _ _ n2 (k2.extBut _ _ n3 (k1.extBut _ _ n1 q))))) ⟨oe, k5.extBut _ _ hne h1, h2⟩
def hR (h : Heap) (z u v : Addr) : Prop := IsZip h z u v .none ∨ ∃ T f, IsZipHeld h z u v T f
theorem hR.item {z u v c d l m : Addr} {i j : Nat} {xs ys : Array Value} {x y a b : Value} {Q : Option Value → Shared → Prop} (D : ZipApart z u v c d l m) (hz : hR s.heap z u v) (hu : IsPair s.heap u (.ref c) (.ref d)) (hv : IsPair s.heap v a b)
  (hc : s.heap.IsListIter c l i) (hd : s.heap.IsListIter d m j) (hl : s.heap.IsList l xs) (hm : s.heap.IsList m ys) (hx : xs[i]? = some x) (hy : ys[j]? = some y)
  (hQ : ∀ h', hR h' z u v → (∃ a b, IsPair h' v a b) → h'.IsListIter c l (i + 1) → h'.IsListIter d m (j + 1) → IsPair h' s.heap.objs.size x y →
   (∀ e o, e ≠ z → e ≠ v → e ≠ c → e ≠ d → s.heap.get? e = some o → h'.get? e = some o) → Q (some (.ref s.heap.objs.size)) { s with heap := h' }) :
  wpAny (model prog w) A (pyNext (.ref z)) Q E s := by
 rcases hz with hz | ⟨T, f, hz⟩
 ·exact wpAny_pyNext_zip_item D hz hu hv hc hd hl hm hx hy fun h' a1 a2 a3 a4 a5 _ a7 => hQ h' (.inr ⟨_, false, a1⟩) ⟨_, _, a2⟩ a3 a4 a5 a7
 ·cases hT : s.heap.get? T with
  | some oT => exact wpAny_pyNext_zip_item_held D hz hT hu hc hd hl hm hx hy fun h' a1 a2 a3 a4 _ a6 => hQ h' (.inr ⟨_, _, a1⟩) ⟨a, b, a6 v _ D.TOz D.TOi1 D.TOi2 hv⟩ a2 a3 a4 fun e o n1 _ n3 n4 q => a6 e o n1 n3 n4 q
  | none =>
   have hTy : s.TypeIs (.ref z) "zip" := ⟨_, hz, rfl⟩
   unfold pyNext
   exact wpAny_bind (wpAny_attempt (wpAny_callSpecial?_slot (name := Str.ofString "__next__") hTy F.slot_zip_next (wpAny_call_entry F.slot_zip_next hTy F.entry_zip_next
    (jE D hz hT hu hv hc hd hl hm hx hy fun h' a1 a2 a3 a4 a5 a6 => wpAny_pure (hQ h' (.inr ⟨_, _, a1⟩) ⟨_, _, a2⟩ a3 a4 a5 a6)) (F.args_zip_next_1 _))))
theorem hR.stop {z u v c d l m : Addr} {i j : Nat} {xs ys : Array Value} {a b : Value} {Q : Option Value → Shared → Prop} (hh : A.handled = none) (D : ZipApart z u v c d l m) (hz : hR s.heap z u v) (hu : IsPair s.heap u (.ref c) (.ref d)) (hv : IsPair s.heap v a b)
  (hc : s.heap.IsListIter c l i) (hd : s.heap.IsListIter d m j) (hl : s.heap.IsList l xs) (hm : s.heap.IsList m ys) (hend : xs[i]? = none ∨ ys[j]? = none)
  (hQ : ∀ h', (∀ e o, e ≠ z → e ≠ v → e ≠ c → e ≠ d → s.heap.get? e = some o → h'.get? e = some o) → Q none { s with heap := h' }) : wpAny (model prog w) A (pyNext (.ref z)) Q E s := by
 rcases hz with hz | ⟨T, f, hz⟩
 ·exact wpAny_pyNext_zip_end hh D hz hu hv hc hd hl hm hend hQ
 ·cases hT : s.heap.get? T with
  | some oT => exact wpAny_pyNext_zip_end_held hh D hz hT hu hc hd hl hm hend fun h' k => hQ h' fun e o n1 _ n3 n4 q => k e o n1 n3 n4 q
  | none =>
   have hTy : s.TypeIs (.ref z) "zip" := ⟨_, hz, rfl⟩
   unfold pyNext
   refine wpAny_bind (wpAny_attempt (wpAny_callSpecial?_slot (name := Str.ofString "__next__") hTy F.slot_zip_next (wpAny_call_entry F.slot_zip_next hTy F.entry_zip_next
    (km hh D hz hT hu hv hc hd hl hm hend fun h' e hk ⟨o, ho, hc⟩ => ?_) (F.args_zip_next_1 _))))
   exact wpAny_bind (wpAny_isInstance (T := "StopIteration") (b := true) ⟨o, ho, hc⟩ isSubtype_stop (wpAny_pure (hQ _ hk)))
end
end Q
namespace Q
open PySem L2
section
variable {Z : Zc}
def eb : Str → Str → Option D := fun x y => match Builtin.Str.occurrences x y 0 x.length 1 with
 | i :: _ => some (.int (i : Nat))
 | [] => none
theorem gL {o e : Expr} {apos pos : Pos} {mo me : ME} (ho : EV Z o mo) (he : EV Z e me) (hs : ∀ env, starEach [e] env = [(false, eval e env)] := by intro _; rfl) (hbase : ∀ env, attributeBase o "index" env (eval o env) = eval o env := by intro _; rfl) (hline : (apos.endLine == pos.line) = true := by rfl) :
  EV Z (.Call (.Attribute o "index" apos) [e] [] pos) (mM1 eb mo me) :=
 nN F.slot_str_index F.type_str_index (fun X => mt_sindex) (fun x y d K cl I H Q h k => by
  unfold eb at h
  split at h
  ·rename_i i r e; cases h; exact ⟨x, y, i, r, rfl, rfl, e, k _ .int⟩
  ·cases h) ho he hs hbase hline
def jf : List D → Option D
 | [.int i] => if i.natAbs.log2 < 1920 then some (.str (Str.ofString (toString i))) else none
 | _ => none
def kO : List V → Hp → VK → Prop := fun xs H Q => ∃ i : Int, xs = [.int i] ∧ i.natAbs.log2 < 1920 ∧ Q (.str (Str.ofString (toString i))) H
theorem nF : dg Z kO jf := by
 intro I H xs z vs Q s rs h k
 unfold jf at h
 split at h
 ·split at h
  ·rename_i hl; cases h; obtain ⟨v, rfl, r⟩ := rs.one; cases r.int; exact ⟨_, rfl, hl, k _ .str⟩
  ·cases h
 ·cases h
theorem mN {X : Cx} : CallR X (.type "str") kO := call_str_int
def cH (a : ME) : ME := fun env => (a env).bind fun p => match p.1 with
 | .str y => if y.length ≤ sizeLine then some (.str y, p.2) else none
 | .int i => if i.natAbs.log2 < 1920 then some (.str (Str.ofString (toString i)), p.2) else none
 | _ => none
theorem fL {e : Expr} {pos : Pos} {m : ME} (h : EV Z e m) : EV Z (.FormattedValue e (-1) none pos) (cH m) := by
 obtain ⟨t, h1, h2⟩ := h
 refine ⟨_, fun X i => pe_fmt (h1 X i), fun g env σ I H Q d env' R hm k => ?_⟩
 unfold cH at hm
 obtain ⟨⟨x, en⟩, e1, hm⟩ := Option.bind_eq_some_iff.mp hm
 refine h2 g env σ I H _ x en R e1 fun v I1 H1 R1 s1 rv => ?_
 dsimp only at hm
 split at hm
 ·split at hm
  ·rename_i y hl
   cases hm
   cases rv.str_inv
   exact .inl ⟨_, rfl, hl, k _ I1 H1 R1 s1 .str⟩
  ·cases hm
 ·split at hm
  ·rename_i i hl
   cases hm
   cases rv.int_inv
   exact .inr ⟨_, rfl, hl, k _ I1 H1 R1 s1 .str⟩
  ·cases hm
 ·cases hm
def mJs : List ME → Str → En → Option (Str × En)
 | [], acc, env => some (acc, env)
 | m :: ms, acc, env => (m env).bind fun p => match p.1 with
  | .str y => if (acc ++ y).length ≤ sizeLine then mJs ms (acc ++ y) p.2 else none
  | _ => none
inductive JV (Z : Zc) : List Expr → List ME → Prop where
 | nil : JV Z [] []
 | cons {e : Expr} {m : ME} {es : List Expr} {ms : List ME} (h : EV Z e m) (r : JV Z es ms) : JV Z (e :: es) (m :: ms)
theorem nA {es : List Expr} {ms : List ME} (h : JV Z es ms) : ∃ ts, (∀ X, InF Z X → PJ X es ts) ∧ ∀ (acc : Str) (g : G) (env : En) (σ : St) (I H : Hp) (Q : Str → Hp → Prop) (out : Str) (env' : En), SR Z.K Z.cl g env σ I H → mJs ms acc env = some (out, env') →
  (∀ I' H', SR Z.K Z.cl g env' σ I' H' → Same I I' → Q out H') → tJs ts acc σ H Q := by
 induction h with
 | nil =>
  refine ⟨[], fun X i => .nil, fun acc g env σ I H Q out env' R hm k => ?_⟩
  cases hm
  exact k I H R (Same.refl _)
 | @cons e m es ms h r ih =>
  obtain ⟨t, h1, h2⟩ := h
  obtain ⟨ts, i1, i2⟩ := ih
  refine ⟨t :: ts, fun X i => .cons (h1 X i) (i1 X i), fun acc g env σ I H Q out env' R hm k => ?_⟩
  unfold mJs at hm
  obtain ⟨⟨x, en⟩, e1, hm⟩ := Option.bind_eq_some_iff.mp hm
  refine h2 g env σ I H _ x en R e1 fun v I1 H1 R1 s1 rv => ?_
  dsimp only at hm
  split at hm
  ·split at hm
   ·rename_i y hl
    cases rv.str_inv
    exact ⟨_, rfl, hl, i2 _ g en σ I1 H1 Q out env' R1 hm fun I2 H2 R2 s2 => k I2 H2 R2 (s1.trans s2)⟩
   ·cases hm
  ·cases hm
def cj (ms : List ME) : ME := fun env => (mJs ms Str.empty env).map fun p => (.str p.1, p.2)
theorem gG {v1 v2 : Expr} {rest : List Expr} {ms : List ME} {pos : Pos} (h : JV Z (v1 :: v2 :: rest) ms) : EV Z (.JoinedStr (v1 :: v2 :: rest) pos) (cj ms) := by
 obtain ⟨ts, h1, h2⟩ := nA h
 refine ⟨_, fun X i => pe_joined (h1 X i), fun g env σ I H Q d env' R hm k => ?_⟩
 unfold cj at hm
 obtain ⟨⟨out, en⟩, e1, hm⟩ := Option.map_eq_some_iff.mp hm
 cases hm
 exact h2 Str.empty g env σ I H _ out en R e1 fun I1 H1 R1 s1 => k _ I1 H1 R1 s1 .str
end
end Q
namespace Q
open PySem PySem.Spec PyProof.Rows L2
section
variable {Z : Zc}
def o9 (a : En → Option (List D × En)) : MI := fun env => (a env).bind fun p => match p.1 with
 | [.str z] => some (i5 0 (signs z), p.2)
 | _ => none
end
end Q
namespace Q
open PySem PySem.Spec PyProof.Rows L2 GenW
abbrev bz (X : Cx) (A : Around) (s : Shared) (H : Hp) (ge : Env) (fp : List Addr) (po : List (Addr × Obj)) : Cx :=
 { X with A := A, s_0 := s, H_0 := H, env := ge, outer := X.stack, stack := ge :: X.stack, ex := fp, fn := fun _ => false, pn := po, xe := fun _ _ => False }
abbrev cV (X : Cx) (scope : Scope) (s : Shared) (code : Value) : Env := genEnv scope (cloFrom X.env.cells scope.names []) s.heap.objs.size code builtinsNs X.env
theorem jS {X : Cx} {pins : List (Addr × Obj)} {σ : L2.St} {H : Hp} {s z : Shared} {scope : Scope} {own : List (Str × Nat)} {fp : List Addr} {A : Around} {code : Value} {a : Addr} {o : Obj} {m : Str → Option Value}
  (J : Inv X pins σ H s) (ok : BlkOk X.N X.env.scope scope own) (nc : ∀ y ∈ scope.names, y.2 ≠ .cell) (hN : X.N.Nodup) (hf : ∀ b ∈ fp, FpOk X pins H b ∧ b < s.heap.objs.size)
  (hA : A.frames = some (cV X scope s code :: X.stack)) (hh : A.handled = none)
  (hos : z.os = s.os) (hb : AllBare z.gens) (kp : ∀ b u, s.heap.get? b = some u → z.heap.get? b = some u) (hn : z.heap.Ns s.heap.objs.size m)
  (ha : z.heap.get? a = some o) (hl : s.heap.objs.size < a) (hd : ∀ v, o.data ≠ .cell v) :
  Inv (bz X A s H (cV X scope s code) fp [(a, o)]) [] (wipe σ (own.map (·.2))) H z := by
 have free : ∀ y ∈ scope.names, y.2 = .free → ∃ c, X.env.cells.lookup y.1 = some c := fun y hy e =>
  (ok.free y hy e).elim (fun k => J.ok.has _ (.inl k)) fun k => J.ok.has _ (.inr k)
 have cm : ∀ {y c}, (cV X scope s code).cells.lookup y = some c → X.env.cells.lookup y = some c ∧ c < s.heap.objs.size := fun {y c} e => by
  have e : (cloFrom X.env.cells scope.names []).lookup y = some c := e
  rcases cloFrom_mem (PySem.mem_of_lookup e) with q | ⟨q, rfl⟩
  ·cases q
  ·obtain ⟨c, hc⟩ := free _ q rfl
   rw [hc]
   obtain ⟨_, r⟩ := J.cell _ _ hc
   exact ⟨rfl, r.lt⟩
 have look : ∀ {y}, scope.names.lookup y = some .free → ∃ c, (cV X scope s code).cells.lookup y = some c ∧ X.env.cells.lookup y = some c := fun {y} q => by
  obtain ⟨c, e⟩ := mem_lookup (cloFrom_has (cells := X.env.cells) (acc := []) (PySem.mem_of_lookup q))
  exact ⟨c, e, (cm e).1⟩
 have nofr : ∀ b, s.heap.objs.size ≤ b → b ∉ frs X.stack := fun b hb q => by
  rcases List.mem_cons.mp (J.stkSub b q) with e | q
  ·have h1 := J.lt
   rw [← e] at h1
   exact Nat.lt_irrefl _ (Nat.lt_of_lt_of_le h1 hb)
  ·exact J.nofs hb q
 have oke : (bz X A s H (cV X scope s code) fp [(a, o)]).Ok := by
  refine ⟨J.ok.mod, ok.kind, J.ok.glob, rfl, Nat.le_refl _, fun y y' c e1 e2 => J.ok.inj y y' c (cm e1).1 (cm e2).1, fun y hy => ?_, (fun _ _ q => by cases q), fun _ => hh, hA, .inr ⟨rfl, rfl⟩, fun b hb => ⟨Nat.ne_of_lt (hf b hb).2, fun y c e q => ?_⟩, J.bs, Nat.le_trans J.ok.bsz J.sz,
   fun b u e q => ?_, fun b hb q => ?_, J.stack, J.stkFree⟩
  ·rcases hy with hy | hy
   ·exact absurd rfl (nc _ (PySem.mem_of_lookup (show scope.names.lookup y = some .cell from hy)))
   ·obtain ⟨c, e, _⟩ := look (show scope.names.lookup y = some .free from hy)
    exact ⟨c, e⟩
  ·exact (hf b hb).1.2.2.2.2.1 y c (cm e).1 q
  ·rcases (hf b q).1.2.2.2.1 with r | r
   ·exact J.ok.noex b u e r
   ·exact absurd (Nat.lt_of_lt_of_le (Heap.lt_size e) (Nat.le_trans J.ok.bsz r)) (Nat.lt_irrefl _)
  ·rcases List.mem_cons.mp (J.stkSub b q) with r | r
   ·exact (hf b hb).1.2.1 r
   ·exact (hf b hb).1.2.2.1 r
 refine ⟨oke, hos, hb, Un.kept kp, ⟨m, hn, fun i y v e1 e2 e3 => ?_⟩, fun y c e => ?_, J.hok.fresh (Nat.le_refl _), fun y c e => J.freeC y c (cm e).1, fun p hp => ?_, J.hok.kept kp, by rw [wipe_length]; exact J.len⟩
 ·obtain ⟨e2, hne⟩ := wipe_some e2
  have own' : ∀ k, scope.names.lookup y = some k → k = .local ∨ k = .cell → False := fun k e hk => by
   rcases ok.own _ (PySem.mem_of_lookup e) hk with q | q
   ·obtain ⟨p, hp, hpy⟩ := List.mem_map.mp q
    have e4 := ok.ix p hp
    rw [show p.1 = y from hpy] at e4
    exact hne (List.mem_map.mpr ⟨p, hp, nodup_ix hN e4 e1⟩)
   ·exact q (List.mem_of_getElem? e1)
  have hfr : scope.names.lookup y = some .free := by
   rcases (show Vis scope y from e3) with q | q | q
   ·exact (own' _ q (.inl rfl)).elim
   ·exact (own' _ q (.inr rfl)).elim
   ·exact q
  obtain ⟨c, h1, h2⟩ := look hfr
  obtain ⟨m0, _, hl0⟩ := J.loc
  have hvis : Vis X.env.scope y := (ok.free _ (PySem.mem_of_lookup hfr) rfl).elim (fun k => .inr (.inl k)) (fun k => .inr (.inr k))
  obtain ⟨w, r, q⟩ := hl0 i y v e1 e2 hvis
  refine ⟨w, r, .inr ⟨.inr hfr, c, h1, ?_⟩⟩
  rcases q with ⟨k, _⟩ | ⟨_, c', e', q⟩
  ·have k : X.env.scope.names.lookup y = some .local := k
   rcases ok.free _ (PySem.mem_of_lookup hfr) rfl with k' | k' <;> rw [show X.env.scope.names.lookup y = _ from k'] at k <;> cases k
  ·rw [h2] at e'; cases e'
   exact q.keeps kp
 ·obtain ⟨w, q⟩ := J.cell y c (cm e).1
  exact ⟨w, q.keeps kp⟩
 ·have hp : p = (a, o) := by simpa using hp
  subst hp
  exact ⟨ha, J.hok.fresh (Nat.le_of_lt hl), Nat.ne_of_gt hl, nofr a (Nat.le_of_lt hl), hd⟩
structure Woken (S : List Addr) (s z : Shared) : Prop where
 os : z.os = s.os
 bare : AllBare z.gens
 keep : ∀ b o, b ∉ S → s.heap.get? b = some o → z.heap.get? b = some o
 own : ∀ b ∈ S, ∃ o, z.heap.get? b = some o ∧ ∀ v, o.data ≠ .cell v
theorem dV {X : Cx} {pins : List (Addr × Obj)} {σ : L2.St} {H : Hp} {s z : Shared} {S : List Addr} (J : Inv X pins σ H s) (hS : ∀ b ∈ S, FpOk X pins H b) (W : Woken S s z) : Inv X pins σ H z := by
 obtain ⟨w1, w2, w3, w4⟩ := W
 obtain ⟨h, g, d, t, o⟩ := z
 have e : o = s.os := w1
 subst e
 have nS : ∀ b u, H b = some u → b ∉ S := fun b u q hb => by rw [(hS b hb).1] at q; cases q
 have nL : X.env.locals ∉ S := fun hb => (hS _ hb).2.1 rfl
 refine J.step (g' := g) (t' := t) (d' := d) (ch := S) (fun b hb => ⟨(hS b hb).2.2.2.1, (hS b hb).2.1, (hS b hb).2.2.2.2.1, (hS b hb).2.2.2.2.2⟩) (fun b u _ _ n q _ => w3 b u n q) (fun b u _ _ n q _ => ⟨u.slots, w3 b u n q⟩) (fun _ _ _ _ n => n)
  (fun b u n q => ⟨u, w3 b u n q⟩) (fun _ _ q => q) (fun _ _ _ q => q) (fun b ps q => ⟨#[], by rw [q]; simp⟩) (fun m ⟨ob, es, ep, q, r⟩ => ⟨ob, es, ep, w3 _ ob nL q, r⟩) (fun b u q => ?_) w2
 refine (J.hok b u q).stay (fun c v hc y => w3 c v ?_ y) (fun _ y => y) fun _ _ y => y
 rcases hc with y | y
 ·rw [y]; exact nS b u q
 ·exact nS c _ y
def GxY {T : Type} (X : Cx) (pins : List (Addr × Obj)) (σ : L2.St) (Lk : T → Shared → Prop) (KK : T → V → Hp → (T → Hp → Prop) → Prop) (a : Addr) (g : Nat) (S : List Addr) : Protocol := fun _ s₀ v s₁ kap =>
 s₁.heap.IsGen a g ∧ (∀ b ∈ S, ∀ o, s₀.heap.get? b = some o → s₁.heap.get? b = some o) ∧ ∃ t y H Nx, Lk t s₀ ∧ RelV y v ∧ Inv X pins σ H s₁ ∧ (∀ b ∈ S, H b = none) ∧ KK t y H Nx ∧ (∀ t', Nx t' H → ∀ z, Woken S s₁ z → Lk t' z → kap (.send .none) z)
def GxR {T : Type} (X : Cx) (pins : List (Addr × Obj)) (σ : L2.St) (Lk : T → Shared → Prop) (QE : T → Hp → Prop) (S : List Addr) : GenEnd := fun _ s₀ r s₁ =>
 ((r = .ok (.ret .none) ∨ r = .ok .next) ∧ (∃ t H, Lk t s₀ ∧ Inv X pins σ H s₁ ∧ (∀ b ∈ S, H b = none) ∧ (∀ b ∈ S, ∀ o, s₀.heap.get? b = some o → s₁.heap.get? b = some o) ∧ QE t H)) ∨ ∃ e, r = .error e ∧ False
def GxT {T : Type} (g : TG) (tt : TT) (te : TE) (vs : List Nat) (σ : L2.St) (J : It) (KK : T → V → Hp → (T → Hp → Prop) → Prop) (QE : T → Hp → Prop) (W : Nat → Nat → T → Hp → Prop) : Prop :=
 ∀ i m t H, W i m t H → (J.stop i H ∧ QE t H) ∨ (J.go i H ∧ ∃ Nx : T → Hp → Prop, (∀ t' H', Nx t' H' → ∃ m', m' < m ∧ W (i + 1) m' t' H') ∧ ∀ x H', J.yld i H x H' → g x (wipe σ vs) H' fun σ2 H2 => wipe σ2 vs = wipe σ vs ∧ tt σ2 H2 fun b H3 =>
  if b = true then te σ2 H3 fun y H4 => KK t y H4 Nx else Nx t H3)
end Q
namespace Q
open PySem PySem.Spec PyProof.Rows L2 GenW
section
variable {X : Cx}
theorem iF {A : Around} {s : Shared} {H H' : Hp} {ge : Env} {fp : List Addr} {po : List (Addr × Obj)} {σ : L2.St} {z : Shared} (J : Inv (bz X A s H ge fp po) [] σ H' z) (hp : ∀ b ∈ fp, ∀ p ∈ po, p.1 ≠ b) (hn : ∀ b ∈ fp, H' b = none) :
  ∀ b ∈ fp, FpOk (bz X A s H ge fp po) [] H' b := fun b hb =>
 ⟨hn b hb, (J.ok.exf b hb).1, J.ok.exfs b hb, .inl hb, (J.ok.exf b hb).2, fun p q => hp b hb p (by simpa using q)⟩
theorem kZ {T' : Type} {Lk : T' → Shared → Prop} {pins : List (Addr × Obj)} {σ : L2.St} {s : Shared} {H : Hp} {elt tg iter : Expr} {ifs : List Expr} {scope : Scope} {own : List (Str × Nat)} {pos : Pos} {g : TG} {tt : TT} {te : TE} {A : Around} {ge : Env} {fp : List Addr} {a gn it : Addr} {o : Obj} {tn : Nat → Heap → Prop} {J : It}
  {KK : T' → V → Hp → (T' → Hp → Prop) → Prop} {QE : T' → Hp → Prop} {W : Nat → Nat → T' → Hp → Prop} {S : List Addr}
  (hc : X.calm = true) (T : Turn X.prog X.w X.K tg J fp it tn) (turn : GxT g tt te (own.map (·.2)) σ J KK QE W)
  {A' : Around} (hA' : A.over (.compLoop (.GeneratorExp elt [⟨tg, iter, ifs, 0⟩] scope pos) 0 (.ref it) .none ge) [] = A')
  (pg : PG (bz X A' s H ge fp [(a, o)]) tg g) (pt : PTs (bz X A' s H ge fp [(a, o)]) ifs tt) (pe : PE (bz X A' s H ge fp [(a, o)]) elt te)
  (hco : ge.scope.isCoroutine = false) (hgen : ∀ h : Heap, h.get? a = some o → h.IsGen a gn) (hpo : ∀ b ∈ fp, a ≠ b)
  (hS : ∀ b ∈ S, b ≠ ge.locals ∧ b ∉ frs X.stack ∧ s.heap.objs.size ≤ b ∧ (∀ x c, ge.cells.lookup x = some c → c ≠ b) ∧ a ≠ b ∧ b ∉ fp)
  (back : ∀ H' z, Inv (bz X A' s H ge fp [(a, o)]) [] (wipe σ (own.map (·.2))) H' z → Inv X pins σ H' z) :
  ∀ (m n i : Nat) (t : T') (s₀ z : Shared) (H' : Hp), m < n → Lk t s₀ → Inv (bz X A' s H ge fp [(a, o)]) [] (wipe σ (own.map (·.2))) H' z → tn i z.heap → (∀ b ∈ fp, H' b = none) → (∀ b ∈ S, H' b = none ∧ ∃ u, z.heap.get? b = some u ∧ ∀ v, u.data ≠ .cell v) →
   (∀ b ∈ S, ∀ u, s₀.heap.get? b = some u → z.heap.get? b = some u) → W i m t H' →
   Seg (model X.prog X.w) A (GxR X pins σ Lk QE S) (GxY X pins σ Lk KK a gn S) n s₀ (.compLoop (.GeneratorExp elt [⟨tg, iter, ifs, 0⟩] scope pos) 0 (.ref it) .none ge)
    ((model X.prog X.w).den (.compLoop (.GeneratorExp elt [⟨tg, iter, ifs, 0⟩] scope pos) 0 (.ref it) .none ge)) [] z := by
 intro m
 induction m using Nat.strongRecOn with
 | ind m ih =>
  intro n i t s₀ z H' hmn lk I st nf nS k0 w
  have po' : ∀ b ∈ fp, ∀ p ∈ [(a, o)], p.1 ≠ b := fun b hb p hp => by
   have hp : p = (a, o) := by simpa using hp
   rw [hp]; exact hpo b hb
  have sOk : ∀ {σ' : L2.St} {H1 : Hp} {pn : List (Addr × Obj)}, (∀ p ∈ pn, p.1 ∈ fp) → (∀ b ∈ S, H1 b = none) → ∀ b ∈ S, FpOk (bz X A' s H ge fp [(a, o)]) pn H1 b := fun {σ' H1 pn} hpn hn b hb => by
   obtain ⟨h1, h2, h3, h4, h5, h6⟩ := hS b hb
   refine ⟨hn b hb, h1, h2, .inr h3, h4, fun p hp => ?_⟩
   rcases List.mem_append.mp hp with hp | hp
   ·have hp : p = (a, o) := by simpa using hp
    rw [hp]; exact h5
   ·exact fun e => h6 (by rw [← e]; exact hpn p hp)
  show Seg _ A _ _ n s₀ _ ((compTurn (.GeneratorExp elt [⟨tg, iter, ifs, 0⟩] scope pos) 0 (.ref it) .none ge).onRaise (leaving ge)) [] z
  rw [compTurn_gen, Sem.onRaise_eq_wrap]
  refine seg_bind_wrap (wpAny_standAt (seg_bind_wrap ?_))
  rw [hA']
  rcases turn i m t H' w with ⟨stop, qe⟩ | ⟨go, Nx, hNx, step⟩
  ·-- the end; what the consumer holds is pinned meanwhile
   have I2 := I.pinned (sOk (σ' := σ) (H1 := H') (pn := []) (fun p hp => by cases hp) fun b hb => (nS b hb).1) fun b hb => (nS b hb).2
   have f2 : ∀ b ∈ fp, FpOk (bz X A' s H ge fp [(a, o)]) ([] ++ pinsAt S z.heap) H' b := fun b hb => by
    obtain ⟨f0, f1, f3, f4, f5, f6⟩ := iF I po' nf b hb
    refine ⟨f0, f1, f3, f4, f5, fun p hp => ?_⟩
    rcases List.mem_append.mp hp with hp | hp
    ·exact po' b hb p hp
    ·have hp : p ∈ pinsAt S z.heap := by simpa using hp
     exact fun e => (hS p.1 (of_pinsAt hp).1).2.2.2.2.2 (by rw [e]; exact hb)
   refine thnF (T.done (bz X A' s H ge fp [(a, o)]) rfl rfl rfl hc i _ z _ H' (fun _ _ => False) I2 f2 st stop) fun r z1 ⟨hr, I3⟩ => ?_
   subst hr
   refine seg_end (.ok .next) (.inl ⟨.inr rfl, t, H', lk, back H' z1 (I3.unpinned (pins := [])), fun b hb => (nS b hb).1, fun b hb u e => ?_, qe⟩)
   exact (I3.pin (b, u) (List.mem_append_right _ (List.mem_append_right _ (mem_pinsAt hb (k0 b hb u e))))).1
  ·have I2 := I.pinned (sOk (σ' := σ) (H1 := H') (pn := []) (fun p hp => by cases hp) fun b hb => (nS b hb).1) fun b hb => (nS b hb).2
   have f2 : ∀ b ∈ fp, FpOk (bz X A' s H ge fp [(a, o)]) ([] ++ pinsAt S z.heap) H' b := fun b hb => by
    obtain ⟨f0, f1, f3, f4, f5, f6⟩ := iF I po' nf b hb
    refine ⟨f0, f1, f3, f4, f5, fun p hp => ?_⟩
    rcases List.mem_append.mp hp with hp | hp
    ·exact po' b hb p hp
    ·have hp : p ∈ pinsAt S z.heap := by simpa using hp
     exact fun e => (hS p.1 (of_pinsAt hp).1).2.2.2.2.2 (by rw [e]; exact hb)
   refine thnF (T.item (bz X A' s H ge fp [(a, o)]) rfl rfl rfl hc i _ z _ H' (fun _ _ => False) I2 f2 st go) fun r z1 ⟨u, hr, h1⟩ => ?_
   subst hr
   refine seg_bind_wrap ?_
   rw [hA']
   refine thnF h1 fun _ z2 ⟨x, H2, I3, r3, y3, st3, n3⟩ => ?_
   -- the iterator's objects are pinned from here on, with the consumer's
   have kS : ∀ b ∈ S, ∀ v, z.heap.get? b = some v → z2.heap.get? b = some v ∧ H2 b = none := fun b hb v e =>
    let q := I3.pin (b, v) (List.mem_append_right _ (List.mem_append_right _ (mem_pinsAt hb e)))
    ⟨q.1, q.2.1⟩
   have f3 : ∀ b ∈ fp, FpOk (bz X A' s H ge fp [(a, o)]) ([] ++ pinsAt S z.heap) H2 b := fun b hb => by
    obtain ⟨_, f1, f3, f4, f5, f6⟩ := f2 b hb
    exact ⟨n3 b hb, f1, f3, f4, f5, f6⟩
   have I4 := I3.pinned f3 (T.obj _ _ st3)
   refine seg_bind_wrap ?_
   rw [hA']
   refine thnF (pg.run _ z2 _ H2 x u _ I4 r3 (step x H2 y3)) fun _ z3 ⟨σ3, H3, I5, hw5, q5⟩ => ?_
   refine seg_bind_wrap ?_
   rw [hA']
   refine thnF (pt.run _ z3 σ3 H3 _ I5 q5) fun b z4 ⟨H4, I6, q6⟩ => ?_
   have len3 : (wipe σ (own.map (·.2))).length = σ3.length := by rw [← hw5, wipe_length]
   -- a turn's end: what was pinned is as it was
   have fin : ∀ {z5 : Shared} {H5 : Hp}, Inv (bz X A' s H ge fp [(a, o)]) (([] ++ pinsAt S z.heap) ++ pinsAt fp z2.heap) σ3 H5 z5 →
     Inv (bz X A' s H ge fp [(a, o)]) [] (wipe σ (own.map (·.2))) H5 z5 ∧ tn (i + 1) z5.heap ∧ (∀ b ∈ fp, H5 b = none) ∧ (∀ b ∈ S, H5 b = none ∧ ∃ u, z5.heap.get? b = some u ∧ ∀ v, u.data ≠ .cell v) ∧ (∀ b ∈ S, ∀ v, z.heap.get? b = some v → z5.heap.get? b = some v) := fun {z5 H5} I7 => by
    have pf : ∀ b ∈ fp, ∀ v, z2.heap.get? b = some v → z5.heap.get? b = some v ∧ H5 b = none := fun b hb v e =>
     let q := I7.pin (b, v) (List.mem_append_right _ (List.mem_append_right _ (mem_pinsAt hb e)))
     ⟨q.1, q.2.1⟩
    have pS : ∀ b ∈ S, ∀ v, z.heap.get? b = some v → z5.heap.get? b = some v ∧ H5 b = none := fun b hb v e =>
     let q := I7.pin (b, v) (List.mem_append_right _ (List.mem_append_left _ (List.mem_append_right _ (mem_pinsAt hb e))))
     ⟨q.1, q.2.1⟩
    refine ⟨(I7.unpinned.unpinned (pins := [])).weak len3 (fun j v e => ?_), T.keep _ _ _ st3 fun b hb v e => (pf b hb v e).1, fun b hb => ?_, fun b hb => ?_, fun b hb v e => (pS b hb v e).1⟩
    ·rw [← hw5] at e
     exact (wipe_some e).1
    ·obtain ⟨v, e, _⟩ := T.obj _ _ st3 b hb
     exact (pf b hb v e).2
    ·obtain ⟨_, v, e, d⟩ := nS b hb
     exact ⟨(pS b hb v e).2, v, (pS b hb v e).1, d⟩
   cases b with
   | false =>
    simp only [Bool.false_eq_true, if_false] at q6 ⊢
    obtain ⟨j1, j2, j3, j4, j5⟩ := fin I6
    obtain ⟨m', hm, w'⟩ := hNx t H4 q6
    exact seg_again rfl (ih m' hm n (i + 1) t s₀ z4 H4 (by omega) lk j1 j2 j3 j4 (fun b hb v e => j5 b hb v (k0 b hb v e)) w')
   | true =>
    simp only [if_true] at q6 ⊢
    have hy : ∀ v, yieldOut ge v = yieldValue v := fun v => by simp only [yieldOut, hco, Bool.false_eq_true, if_false]
    simp only [hy]
    rw [Sem.bind_eq_wrap', Sem.bind_eq_wrap', Sem.wrap_wrap, Sem.wrap_wrap]
    refine seg_wrap ?_
    rw [hA']
    refine thnF (pe.run _ z4 σ3 H4 _ I6 q6) fun v z5 ⟨y, H5, I7, r7, q7⟩ => ?_
    obtain ⟨j1, j2, j3, j4, j5⟩ := fin I7
    obtain ⟨n', rfl⟩ : ∃ n', n = n' + 1 := ⟨n - 1, by omega⟩
    refine seg_at (seg_yield rfl rfl rfl ⟨hgen _ (I7.pin (a, o) (List.mem_append_left _ List.mem_cons_self)).1, fun b hb v e => j5 b hb v (k0 b hb v e), t, y, H5, Nx, lk, r7, back H5 z5 j1, fun b hb => (j4 b hb).1, q7, fun t' nx z6 wk lk' => ?_⟩)
    obtain ⟨m', hm, w'⟩ := hNx t' H5 nx
    have sok := sOk (σ' := σ) (H1 := H5) (pn := []) (fun p hp => by cases hp) fun b hb => (j4 b hb).1
    refine seg_again rfl (ih m' hm n' (i + 1) t' z6 z6 H5 (by omega) lk' (dV j1 sok wk) (T.keep _ _ _ j2 fun b hb v e => wk.keep b v (fun hbS => (hS b hbS).2.2.2.2.2 hb) e) j3 (fun b hb => ⟨(j4 b hb).1, wk.own b hb⟩) (fun _ _ _ e => e) w')
end
end Q
namespace Q
open PySem PySem.Spec PyProof.Rows L2 GenW
section
variable {T : Type} {Lk : T → Shared → Prop} {X : Cx} {pins : List (Addr × Obj)} {σ : L2.St} {KK : T → V → Hp → (T → Hp → Prop) → Prop} {QE : T → Hp → Prop} {a : Addr} {g : Nat}
def jg {T : Type} (X : Cx) (A : Around) (pins : List (Addr × Obj)) (σ : L2.St) (Lk : T → Shared → Prop) (KK : T → V → Hp → (T → Hp → Prop) → Prop) (QE : T → Hp → Prop) (a : Addr) (g : Nat) (S : List Addr) (n : Nat) (z : Shared) : Prop :=
 ∃ gs, z.gens[g]? = some gs ∧ gs.Goes (model X.prog X.w) A (GxR X pins σ Lk QE S) (GxY X pins σ Lk KK a g S) n (.send .none) (z.setGen g .running)
theorem jm {s : Shared} {g : Nat} {gs : GenState} (hb : AllBare s.gens) (h : gs.bare = true) : Woken [] s (s.setGen g gs) :=
 ⟨rfl, allBare_setGen hb h, fun _ _ _ e => e, fun b hb => by cases hb⟩
theorem lZ {A : Around} {n : Nat} {z : Shared} {S : List Addr} {Q : Option Value → Shared → Prop} {E : Value → Shared → Prop} (hh : A.handled = none) (hd : A.depth < recursionLimit) (hl : z.heap.NoLimit) (hg : z.heap.IsGen a g) (h : jg X A.in1 pins σ Lk KK QE a g S n z)
  (hQ : ∀ v z1 t y H Nx, z1.heap.IsGen a g → Lk t (z.setGen g .running) → (∀ b ∈ S, ∀ o, z.heap.get? b = some o → z1.heap.get? b = some o) → RelV y v → Inv X pins σ H z1 → (∀ b ∈ S, H b = none) → KK t y H Nx →
   (∀ t', Nx t' H → ∃ m, ∀ z2, Woken S z1 z2 → z2.gens = z1.gens → Lk t' (z2.setGen g .running) → n = m + 1 ∧ jg X A.in1 pins σ Lk KK QE a g S m z2) → Q (some v) z1)
  (hN : ∀ z1 t H, Lk t (z.setGen g .running) → (∀ b ∈ S, ∀ o, z.heap.get? b = some o → z1.heap.get? b = some o) → Inv X pins σ H z1 → (∀ b ∈ S, H b = none) → QE t H → Q none z1) : wpAny (model X.prog X.w) A (pyNext (.ref a)) Q E z := by
 obtain ⟨gs, hgs, go⟩ := h
 have gl : g < z.gens.size := (Array.getElem?_eq_some_iff.mp hgs).1
 refine wpAny_gsz (n := g + 1) gl (next_genG (F := fun s₀ s₁ s₂ => (∃ t H, Lk t s₁ ∧ Inv X pins σ H s₂ ∧ (∀ b ∈ S, H b = none) ∧ (∀ b ∈ S, ∀ o, s₁.heap.get? b = some o → s₂.heap.get? b = some o) ∧ QE t H)) (Er := fun _ _ => False) hh hl hd hg hgs go (fun v s₁ gs' hbare hv => ?_) (fun s₁ hp h' hk => ?_) fun e s₁ he => he.elim)
 ·intro hsz
  obtain ⟨h1, hS, t, y, H, Nx, hlk, h2, h3, h3s, h4, h5⟩ := hv
  have sz : g < s₁.gens.size := by
   have q : (s₁.setGen g gs').gens.size = s₁.gens.size := setGen_size _ _ _
   omega
  have I1 := dV (S := []) h3 (fun b hb => by cases hb) (jm (gs := gs') (g := g) h3.bare hbare)
  refine hQ v _ t y H Nx h1 hlk hS h2 I1 h3s h4 fun t' nx => ?_
  cases n with
  | zero => exact ⟨0, fun z2 wk hgen lk => (h5 t' nx (z2.setGen g .running) ⟨wk.os, allBare_setGen wk.bare rfl, fun b o hb e => wk.keep b o hb e, wk.own⟩ lk).elim⟩
  | succ m =>
   refine ⟨m, fun z2 wk hgen lk => ⟨rfl, gs', by rw [hgen]; exact setGen_at sz, h5 t' nx (z2.setGen g .running) ⟨wk.os, allBare_setGen wk.bare rfl, fun b o hb e => wk.keep b o hb e, wk.own⟩ lk⟩⟩
 ·intro _
  obtain ⟨t, H, hlk, h1, h1s, hS, h2⟩ := hp
  exact hN _ t H hlk (fun b hb o e => hk b o (hS b hb o e)) (dV (S := []) h1 (fun b hb => by cases hb) ⟨rfl, allBare_setGen h1.bare rfl, fun b o _ e => hk b o e, fun b hb => by cases hb⟩) h1s h2
def LkU : Unit → Shared → Prop := fun _ _ => True
def jb (stop : Bool) (Q : VK) : Unit → V → Hp → (Unit → Hp → Prop) → Prop := fun _ y H Nx => ∃ c, y = .bl c ∧ (if c = stop then Q (.bl stop) H else Nx () H)
theorem fW {s : Shared} (h : AllBare s.gens) : Woken [] s s := ⟨rfl, h, fun _ _ _ e => e, fun b hb => by cases hb⟩
end
section
variable {X : Cx} {pins : List (Addr × Obj)} {σ : L2.St} {a : Addr} {g : Nat}
theorem mK {Q : VK} {A : Around} (hh : A.handled = none) (hd : A.depth < recursionLimit) :
  ∀ (n : Nat) (H : Hp) (z : Shared), Inv X pins σ H z → z.heap.IsGen a g → jg X A.in1.in1 pins σ LkU (jb true Q) (fun _ H => Q (.bl false) H) a g [] n z →
   codeAny (model X.prog X.w) A (.builtin "any.loop" ⟨[.ref a], []⟩) (fun r z' => ∃ b H', r = .ok (.ret (.bool b)) ∧ Inv X pins σ H' z' ∧ Q (.bl b) H') z := by
 intro n
 induction n using Nat.strongRecOn with
 | ind n ih =>
  intro H z I hg h
  refine codeAny_builtin F.entry_any_loop ?_
  rw [Around.under_plainId F.plain_any_loop _]
  show wpAny _ A.in1 (pyNext (.ref a) >>= _) _ _ z
  refine wpAny_bind (lZ (A := A.in1) hh hd I.nolimit hg h (fun v z1 t y H1 Nx hg1 _ _ rv I1 _ hk nx => ?_) fun z1 t H1 _ _ I1 _ q => ?_)
  ·obtain ⟨c, rfl, hk⟩ := hk
   cases rv
   refine wpAny_bind (wpAny_holding (wpAny_truthy_bool (wpAny_bind (wpAny_letGo ?_))))
   cases c with
   | true => exact wpAny_bind (wpAny_rule (wpAny_pure ⟨true, H1, rfl, I1, by simpa using hk⟩))
   | false =>
    obtain ⟨m, at1⟩ := nx () (by simpa using hk)
    obtain ⟨hm, at1⟩ := at1 z1 (fW I1.bare) rfl trivial
    exact wpAny_pure ⟨plainId_quiet F.plain_any_loop _, ih m (by omega) H1 z1 I1 hg1 at1⟩
  ·exact wpAny_bind (wpAny_rule (wpAny_pure ⟨false, H1, rfl, I1, q⟩))
end
end Q
namespace Q
open PySem PySem.Spec PyProof.Rows L2 GenW
section
variable {X : Cx} {pins : List (Addr × Obj)} {σ : L2.St} {H : Hp} {s : Shared}
theorem jr {k : Nat} {A : Around} {e : Expr} {it : Value} {ge : Env} (hr : Room (k + 1) A) (he : ∃ elt gs sc p, e = .GeneratorExp elt gs sc p) : Room k (A.over (.compLoop e 0 it .none ge) []) := by
 obtain ⟨elt, gs, sc, p, rfl⟩ := he
 exact ⟨hr.hd, by have := hr.dp; show A.depth + 0 + 1 + 3 * k + 5 < _; omega, by have := hr.un; show A.units + 0 + 3 + 16 * k + 200 < _; omega⟩
theorem iA {A : Around} {e : Expr} {it : Value} {ge : Env} {l : List Env} (h : A.frames = some l) (he : ∃ elt gs sc p, e = .GeneratorExp elt gs sc p) : (A.over (.compLoop e 0 it .none ge) []).frames = some (ge :: l) := by
 obtain ⟨elt, gs, sc, p, rfl⟩ := he
 show pushEnvs [ge] (pushEnvs [] A.frames) = _
 rw [h]; rfl
theorem jw {A : Around} {e : Expr} {it : Value} {ge : Env} (h : bD A) : bD (A.over (.compLoop e 0 it .none ge) []) := by
 show pushGuards (Code.compLoop e 0 it .none ge).guards (pushGuards [] A.guards) = _
 rw [show (Code.compLoop e 0 it .none ge).guards = [] from rfl]
 exact h
def hW {T : Type} (X : Cx) (k : Nat) (pins : List (Addr × Obj)) (σ : L2.St) (KK : T → V → Hp → (T → Hp → Prop) → Prop) (QE : T → Hp → Prop) (t0 : T) (u : Value) (z : Shared) : Prop :=
 ∃ (a : Addr) (g n : Nat) (c : Code) (H : Hp), u = .ref a ∧ z.heap.IsGen a g ∧ z.gens[g]? = some (.fresh c) ∧ Inv X pins σ H z ∧ a < z.heap.objs.size ∧
  ∀ (A : Around) (S : List Addr) (Lk : T → Shared → Prop) (z2 : Shared), Room (k + 1) A → A.frames = some X.stack → bD A → Woken [] z z2 → (∀ b ∈ S, z.heap.objs.size ≤ b ∧ ∃ u, z2.heap.get? b = some u ∧ ∀ v, u.data ≠ .cell v) → Lk t0 z2 →
   Seg (model X.prog X.w) A (GxR X pins σ Lk QE S) (GxY X pins σ Lk KK a g S) n z2 c ((model X.prog X.w).den c) [] z2
theorem lC {T' : Type} {t0 : T'} {c P : Addr} {k : Nat} {elt tg iter : Expr} {ifs : List Expr} {scope : Scope} {own : List (Str × Nat)} {pos : Pos} {wi : TI} {g : TG} {tt : TT} {te : TE} {KK : T' → V → Hp → (T' → Hp → Prop) → Prop} {QE : T' → Hp → Prop}
  (hc : X.calm = true) (hN : X.N.Nodup) (hr : X.A.depth < recursionLimit) (TB : GxR.TabB X.base X.mg c P) (hcode : X.env.code = .ref c) (hi : PI X tg iter wi) (ok : BlkOk X.N X.env.scope scope own) (nc : ∀ y ∈ scope.names, y.2 ≠ .cell)
  (dot : scope.names.lookup (".0" : Str) = some NameKind.local) (hco : scope.isCoroutine = false)
  (hg : ∀ (A : Around) (s : Shared) (H : Hp) (code : Value) (fp : List Addr) (po : List (Addr × Obj)), Room k A → bD A → PG (bz X A s H (cV X scope s code) fp po) tg g)
  (ht : ∀ (A : Around) (s : Shared) (H : Hp) (code : Value) (fp : List Addr) (po : List (Addr × Obj)), Room k A → bD A → PTs (bz X A s H (cV X scope s code) fp po) ifs tt)
  (he : ∀ (A : Around) (s : Shared) (H : Hp) (code : Value) (fp : List Addr) (po : List (Addr × Obj)), Room k A → bD A → PE (bz X A s H (cV X scope s code) fp po) elt te)
  (hs : ∀ v, genFold iter X.env v = pure v) (I : Inv X pins σ H s)
  (h : wi σ H fun J H1 => GxR.TabG H1 P ∧ ∀ H2, GxR.Tabbed P H1 H2 → ∃ W, (∃ m, W 0 m t0 H2) ∧ GxT g tt te (own.map (·.2)) σ J KK QE W) :
  wpAny (model X.prog X.w) X.A (eval (.GeneratorExp elt [⟨tg, iter, ifs, 0⟩] scope pos) X.env) (hW X k pins σ KK QE t0) X.xe s := by
 have free : ∀ y ∈ scope.names, y.2 = .free → ∃ c, X.env.cells.lookup y.1 = some c := fun y hy e =>
  (ok.free y hy e).elim (fun k => I.ok.has _ (.inl k)) fun k => I.ok.has _ (.inr k)
 refine wpAny_GeneratorExp_make hco (closure_ok free) nc dot ok.kind hr ?_ hs
 refine thn (hi.run pins s σ H _ I h) fun xv s1 hx => thn hx fun itv s2 h2 => ?_
 obtain ⟨it, fp, tn, J, H2, e, I2, T, st2, f2, ⟨ps, hP, htr⟩, q⟩ := h2
 subst e
 refine ⟨I2.nolimit, ?_⟩
 have hPs : s2.heap.get? P = some { cls := .none, data := .fields ps } := I2.hok P _ hP
 have cd : PySem.W.CodeHd s2.heap c P := TB.code.keeps fun b u e => I2.bk b u e
 have sz2 : ∀ b ∈ fp, b < s2.heap.objs.size ∧ b ≠ P := fun b hb => by
  obtain ⟨o, e, _⟩ := T.obj _ _ st2 b hb
  exact ⟨Heap.lt_size e, fun z => by have := (f2 b hb).1; rw [z, hP] at this; cases this⟩
 -- behind the code object: the table may have grown
 have cont : ∀ (code : Value) (h3 : Heap) (tk : Nat) (more : Array Value), Heap.ExtBut P s2.heap h3 → s2.heap.objs.size ≤ h3.objs.size → h3.get? P = some { cls := .none, data := .fields (ps ++ more) } → TriplesOk (ps ++ more).toList →
   wpAny (model X.prog X.w) X.A (builtinsFor X.env.globals X.env.builtins) (fun bi s₄ => ∀ h', h'.Ns s₄.heap.objs.size (fun y => if y = ".0" then some (.ref it) else none) → Heap.SameBut s₄.heap.objs.size (s₄.heap.push { cls := .type "frame", data := .dict #[] }) h' →
     hW X k pins σ KK QE t0 (.ref h'.objs.size) { s₄ with
      gens := s₄.gens.push (.fresh (.compStart (.GeneratorExp elt [⟨tg, iter, ifs, 0⟩] scope pos) 0 (.ref it) .none (genEnv scope (cloFrom X.env.cells scope.names []) s₄.heap.objs.size code bi X.env))),
      toks := s₄.toks + 1 + 1 + 1,
      heap := h'.push { cls := .type "generator", data := .fields #[.int s₄.gens.size 0, .str "<genexpr>" (s₄.toks + 1), .str (X.env.qual ++ "<genexpr>") (s₄.toks + 1 + 1)] } }) X.xe { s2 with heap := h3, toks := tk } := by
  intro code h3 tk more hx hsz hP3 ht3
  obtain ⟨bm, ob, e1, e2, e3, e4, e5, e6, e7, e8⟩ := TB.bm
  refine wpAny_builtinsFor (m := X.mg) (by rw [I2.ok.glob]; exact (I2.mod.glob.keeps I2.bk).extBut hx TB.gP) e1 e2 (hx _ _ e4 (I2.bk _ _ e5)) e6 e7 e8 ?_
  -- the state with the table, then with the frame and the generator
  have I3 := GxR.inv_tab (more := more) (h' := h3) (g' := s2.gens) (d' := s2.drawn) (t' := tk) I2 hP (fun b u hb e => hx b u hb e) hP3 I2.bare
  generalize hs3 : ({ s2 with heap := h3, gens := s2.gens, drawn := s2.drawn, toks := tk } : Shared) = s3 at I3
  have e3h : s3.heap = h3 := by rw [← hs3]
  have st3 : tn 0 s3.heap := T.keep _ _ _ st2 fun b hb o e => by rw [e3h]; exact hx b o (sz2 b hb).2 e
  generalize hH3 : upd H2 P (.tbl (ps ++ more)) = H3 at I3
  have f3 : ∀ b ∈ fp, FpOk X pins H3 b ∧ b < s3.heap.objs.size := fun b hb => by
   refine ⟨⟨?_, (f2 b hb).2⟩, by rw [e3h]; exact Nat.lt_of_lt_of_le (sz2 b hb).1 hsz⟩
   rw [← hH3, upd_ne (sz2 b hb).2]
   exact (f2 b hb).1
  have hTab : GxR.Tabbed P H2 H3 := by
   rw [← hH3]
   exact ⟨⟨_, upd_same, ht3⟩, fun b hb => upd_ne hb⟩
  obtain ⟨W, ⟨m0, w0⟩, turn⟩ := q H3 hTab
  intro h' hn' hsb
  have keep' : ∀ b o, s3.heap.get? b = some o → h'.get? b = some o := fun b o e => hsb.extBut b o (Nat.ne_of_lt (Heap.lt_size e)) (Heap.get?_push_of_some _ e)
  have szh : h'.objs.size = s3.heap.objs.size + 1 := by rw [hsb.1, Heap.size_push]
  generalize hgo : ({ cls := .type "generator", data := .fields #[.int s3.gens.size 0, .str "<genexpr>" (s3.toks + 1), .str (X.env.qual ++ "<genexpr>") (s3.toks + 1 + 1)] } : Obj) = go
  have keep5 : ∀ b o, s3.heap.get? b = some o → (h'.push go).get? b = some o := fun b o e => Heap.get?_push_of_some _ (keep' b o e)
  have bare5 : AllBare (s3.gens.push (.fresh (.compStart (.GeneratorExp elt [⟨tg, iter, ifs, 0⟩] scope pos) 0 (.ref it) .none (genEnv scope (cloFrom X.env.cells scope.names []) s3.heap.objs.size code builtinsNs X.env)))) := I3.bare.push rfl
  generalize hz : ({ s3 with
      gens := s3.gens.push (.fresh (.compStart (.GeneratorExp elt [⟨tg, iter, ifs, 0⟩] scope pos) 0 (.ref it) .none (genEnv scope (cloFrom X.env.cells scope.names []) s3.heap.objs.size code builtinsNs X.env))),
      toks := s3.toks + 1 + 1 + 1, heap := h'.push go } : Shared) = z
  have zh : z.heap = h'.push go := by rw [← hz]
  have zo : z.os = s3.os := by rw [← hz]
  have zb : AllBare z.gens := by rw [← hz]; exact bare5
  have zgo : z.heap.get? h'.objs.size = some go := by rw [zh]; exact Heap.get?_push_size _ (by rw [← hgo]; rfl)
  have isg : ∀ hh : Heap, hh.get? h'.objs.size = some go → hh.IsGen h'.objs.size s3.gens.size := fun hh e => ⟨go, _, _, e, by rw [← hgo], by rw [← hgo], by rw [← hgo]⟩
  have I5 : Inv X pins σ H3 z := dV (S := []) I3 (fun b hb => by cases hb) ⟨zo, zb, fun b o _ e => by rw [zh]; exact keep5 b o e, fun b hb => by cases hb⟩
  refine ⟨h'.objs.size, s3.gens.size, m0 + 1, _, H3, rfl, isg _ zgo, by rw [← hz]; exact Array.getElem?_push_size .., I5, by rw [zh, Heap.size_push]; exact Nat.lt_succ_self _, fun A S Lk z2 rA fA cA wk hS lk0 => ?_⟩
  have hgen : ∃ elt' gs sc p, (Expr.GeneratorExp elt [⟨tg, iter, ifs, 0⟩] scope pos) = .GeneratorExp elt' gs sc p := ⟨_, _, _, _, rfl⟩
  generalize hge : cV X scope s3 code = ge
  generalize hA' : A.over (.compLoop (.GeneratorExp elt [⟨tg, iter, ifs, 0⟩] scope pos) 0 (.ref it) .none ge) [] = A'
  have rA' : Room k A' := by rw [← hA']; exact jr rA hgen
  have fA' : A'.frames = some (ge :: X.stack) := by rw [← hA']; exact iA fA hgen
  have cA' : bD A' := by rw [← hA']; exact jw cA
  have kp2 : ∀ b u, s3.heap.get? b = some u → z2.heap.get? b = some u := fun b u e => wk.keep b u (by simp) (by rw [zh]; exact keep5 b u e)
  have I6 : Inv (bz X A' s3 H3 ge fp [(h'.objs.size, go)]) [] (wipe σ (own.map (·.2))) H3 z2 := by
   rw [← hge]
   refine jS (m := fun y => if y = ".0" then some (.ref it) else none) I3 ok nc hN f3 (by rw [hge]; exact fA') rA'.hd (wk.os.trans zo) wk.bare kp2 ?_ (wk.keep _ _ (by simp) zgo) (by rw [szh]; exact Nat.lt_succ_self _) (fun v e => by rw [← hgo] at e; cases e)
   have n5 : z.heap.Ns s3.heap.objs.size (fun y => if y = ".0" then some (.ref it) else none) := by rw [zh]; exact hn'.push _
   exact n5.at' fun o e => wk.keep _ o (by simp) e
  have loc : ge.locals = s3.heap.objs.size := by rw [← hge]; rfl
  have zsz : z.heap.objs.size = s3.heap.objs.size + 2 := by rw [zh, Heap.size_push, szh]
  have hS' : ∀ b ∈ S, b ≠ ge.locals ∧ b ∉ frs X.stack ∧ s3.heap.objs.size ≤ b ∧ (∀ x c, ge.cells.lookup x = some c → c ≠ b) ∧ h'.objs.size ≠ b ∧ b ∉ fp := fun b hb => by
   have hb1 := (hS b hb).1
   rw [zsz] at hb1
   have hle : s3.heap.objs.size ≤ b := Nat.le_trans (Nat.le_add_right _ 2) hb1
   refine ⟨by rw [loc]; intro e; rw [e] at hb1; exact absurd (Nat.le_trans (Nat.le_add_right _ 1) hb1) (Nat.not_succ_le_self _), fun q => ?_, hle, fun x cc e z => ?_, by rw [szh]; intro e; rw [← e] at hb1; exact absurd hb1 (Nat.not_succ_le_self _), fun hf => ?_⟩
   ·have q' := I6.ok.frf b q
    rcases List.mem_cons.mp (I3.stkSub b q) with e | q
    ·have h1 := I3.lt
     rw [← e] at h1
     exact Nat.lt_irrefl _ (Nat.lt_of_lt_of_le h1 hle)
    ·exact I3.nofs hle q
   ·rw [← hge] at e
    have e : (cloFrom X.env.cells scope.names []).lookup x = some cc := e
    rcases cloFrom_mem (PySem.mem_of_lookup e) with q | ⟨q, rfl⟩
    ·cases q
    ·obtain ⟨c2, hc2⟩ := free _ q rfl
     obtain ⟨_, r⟩ := I3.cell _ _ hc2
     rw [hc2] at z
     have r' := r.lt
     rw [show c2 = b from z] at r'
     exact Nat.lt_irrefl _ (Nat.lt_of_lt_of_le r' hle)
   ·exact Nat.lt_irrefl _ (Nat.lt_of_lt_of_le (f3 b hf).2 hle)
  have back : ∀ H' z', Inv (bz X A' s3 H3 ge fp [(h'.objs.size, go)]) [] (wipe σ (own.map (·.2))) H' z' → Inv X pins σ H' z' := fun H' z' I' =>
   I3.call' (ch := fp) I'.os I'.base I'.hok I'.bare fun b hb => ⟨(f3 b hb).1.2.2.2.1, (f3 b hb).1.2.1, (f3 b hb).1.2.2.2.2.1, (f3 b hb).1.2.2.2.2.2⟩
  have st6 : tn 0 z2.heap := T.keep _ _ _ st3 fun b hb o e => kp2 b o e
  have nS : ∀ b ∈ S, H3 b = none ∧ ∃ u, z2.heap.get? b = some u ∧ ∀ v, u.data ≠ .cell v := fun b hb => ⟨I3.hok.fresh (hS' b hb).2.2.1, (hS b hb).2⟩
  have loop := kZ (s := s3) (H := H3) (gn := s3.gens.size) (Lk := Lk) (KK := KK) (QE := QE) (S := S) hc T turn hA' (by rw [← hge]; exact hg A' s3 H3 code fp _ rA' cA') (by rw [← hge]; exact ht A' s3 H3 code fp _ rA' cA') (by rw [← hge]; exact he A' s3 H3 code fp _ rA' cA')
   (by rw [← hge]; exact hco) isg (fun b hb e => by
    have h9 := (f3 b hb).2
    rw [← e, szh] at h9
    exact absurd h9 (Nat.not_succ_lt_self)) hS' back m0 (m0 + 1) 0 t0 z2 z2 H3 (Nat.lt_succ_self _) lk0 I6 st6 (fun b hb => (f3 b hb).1.1) nS (fun _ _ _ e => e) w0
  have hcs : genEnv scope (cloFrom X.env.cells scope.names []) s3.heap.objs.size code builtinsNs X.env = ge := hge
  rw [hcs]
  show Seg _ A _ _ _ z2 _ ((compStart (.GeneratorExp elt [⟨tg, iter, ifs, 0⟩] scope pos) 0 (.ref it) .none ge).onRaise (leaving ge)) [] z2
  unfold compStart
  rw [Sem.onRaise_eq_wrap]
  show Seg _ A _ _ _ z2 _ (Sem.wrap _ _ _ _ (ask >>= _)) [] z2
  refine seg_bind_wrap (wpAny_askSetting ?_)
  split
  ·exact seg_again rfl loop
  ·refine seg_bind_wrap (wpAny_rule ?_)
   show Seg _ A _ _ _ z2 _ (Sem.wrap _ _ _ _ (standAt iter.pos >>= _)) [] z2
   exact seg_bind_wrap (wpAny_standAt (seg_bind_wrap (T.self _ 0 _ _ _ st6 (seg_again rfl loop))))
 cases hf : codeAmong pos ps.toList with
 | none =>
  refine wpAny_genexprCodeX hcode (cd.code hPs htr) (cd.tab hPs) hf fun c' hh tk hx hge hlt hco' _ htab' _ => ?_
  obtain ⟨o1, vs, f1, tf, fl, tg1, inF, tx, tk1, op, _, _, _, _, _, _, _, _, _, htr2, _⟩ := hco'
  exact cont _ hh tk _ hx (Nat.le_trans hge (Nat.le_of_lt hlt)) htab'.2 htr2
 | some cv =>
  refine wpAny_genexprCode_hit hcode (cd.code hPs htr) hf ?_
  have q := cont cv s2.heap s2.toks #[] (Heap.ExtBut.refl _ _) (Nat.le_refl _) (by rw [Array.append_empty]; exact hPs) (by rw [Array.append_empty]; exact htr)
  exact q
end
end Q
namespace Q
open PySem PySem.Spec PyProof.Rows L2 GenW
section
variable {X : Cx}
def tGx (stop : Bool) (P : Addr) (wi : TI) (g : TG) (tt : TT) (te : TE) (vs : List Nat) : TE := fun σ H Q => wi σ H fun J H1 => GxR.TabG H1 P ∧ ∀ H2, GxR.Tabbed P H1 H2 → ∃ W, (∃ m, W 0 m () H2) ∧ GxT g tt te vs σ J (jb stop Q) (fun _ H => Q (.bl (!stop)) H) W
theorem jx {T : Type} {t0 : T} {k : Nat} {pins : List (Addr × Obj)} {σ : L2.St} {KK : T → V → Hp → (T → Hp → Prop) → Prop} {QE : T → Hp → Prop} {u : Value} {z : Shared} (h : hW X k pins σ KK QE t0 u z) {A : Around} (hr : Room (k + 1) A) (fA : A.frames = some X.stack) (cA : bD A) :
  ∃ a g n H, u = .ref a ∧ a < z.heap.objs.size ∧ z.heap.IsGen a g ∧ Inv X pins σ H z ∧ ∀ (S : List Addr) (Lk : T → Shared → Prop) (z2 : Shared), Woken [] z z2 → z2.gens = z.gens → (∀ b ∈ S, z.heap.objs.size ≤ b ∧ ∃ u, z2.heap.get? b = some u ∧ ∀ v, u.data ≠ .cell v) → Lk t0 (z2.setGen g .running) → jg X A pins σ Lk KK QE a g S n z2 := by
 obtain ⟨a, g, n, c, H, rfl, h1, h2, h3, h5, h4⟩ := h
 refine ⟨a, g, n, H, rfl, h5, h1, h3, fun S Lk z2 wk hgen hS lk => ⟨.fresh c, by rw [hgen]; exact h2, rfl, h4 A S Lk _ hr fA cA ⟨wk.os, allBare_setGen wk.bare rfl, fun b o hb e => wk.keep b o hb e, fun b hb => by cases hb⟩ hS lk⟩⟩
theorem lz {c P : Addr} {k : Nat} {elt tg iter : Expr} {ifs : List Expr} {scope : Scope} {own : List (Str × Nat)} {p pos gpos : Pos} {wi : TI} {g : TG} {tt : TT} {te : TE}
  (hc : X.calm = true) (hN : X.N.Nodup) (hr : Room (k + 2) X.A) (gd : bD X.A) (hgl : Gl X "any") (hm : X.mg "any" = none) (TB : GxR.TabB X.base X.mg c P) (hcode : X.env.code = .ref c) (hi : PI X tg iter wi) (ok : BlkOk X.N X.env.scope scope own) (nc : ∀ y ∈ scope.names, y.2 ≠ .cell)
  (dot : scope.names.lookup (".0" : Str) = some NameKind.local) (hco : scope.isCoroutine = false)
  (hg : ∀ (A : Around) (s : Shared) (H : Hp) (code : Value) (fp : List Addr) (po : List (Addr × Obj)), Room k A → bD A → PG (bz X A s H (cV X scope s code) fp po) tg g)
  (ht : ∀ (A : Around) (s : Shared) (H : Hp) (code : Value) (fp : List Addr) (po : List (Addr × Obj)), Room k A → bD A → PTs (bz X A s H (cV X scope s code) fp po) ifs tt)
  (he : ∀ (A : Around) (s : Shared) (H : Hp) (code : Value) (fp : List Addr) (po : List (Addr × Obj)), Room k A → bD A → PE (bz X A s H (cV X scope s code) fp po) elt te)
  (hs : ∀ v, genFold iter X.env v = pure v)
  (hst : starEach [.GeneratorExp elt [⟨tg, iter, ifs, 0⟩] scope gpos] X.env = (false, eval (.GeneratorExp elt [⟨tg, iter, ifs, 0⟩] scope gpos) X.env) :: starEach [] X.env := by rfl) :
  PE X (.Call (.Name "any" p) [.GeneratorExp elt [⟨tg, iter, ifs, 0⟩] scope gpos] [] pos) (tGx true P wi g tt te (own.map (·.2))) := by
 refine ⟨fun pins s σ H Q I h => wpAny_Call_Name_kw (ld_blt I hgl hm boot_any (PyProof.Rows.callWith_builtin1 ?_ hst (by rfl)))⟩
 rw [hst]
 show wpAny _ _ (spliced ((false, eval (.GeneratorExp elt [⟨tg, iter, ifs, 0⟩] scope gpos) X.env) :: backTo pos (starEach [] X.env))) _ _ s
 refine Calls.spliced_cons (wpAny_mono (lC (t0 := ()) (KK := jb true Q) (QE := fun _ H => Q (.bl false) H) hc hN (by have := hr.dp; omega) TB hcode hi ok nc dot hco hg ht he hs I h) (fun u z hz => Calls.spliced_nil ?_) fun _ _ e => e)
 have rA : Room (k + 1) X.A.in1.in1 := ⟨hr.hd, by have := hr.dp; show X.A.depth + 3 * (k + 1) + 5 < _; omega, by have := hr.un; show X.A.units + 1 + 1 + 16 * (k + 1) + 200 < _; omega⟩
 obtain ⟨a, gn, n, H1, rfl, _, hgen, I1, hat⟩ := jx hz rA I.ok.frames gd
 have hat := hat [] LkU z (fW I1.bare) rfl (fun b hb => by cases hb) trivial
 refine call_function_tree F.kind_any F.plain_any F.entry_any (F.args_any1 _) ?_
 unfold Builtin.«any»
 refine wpAny_bind (m := oneArg "any" _) (wpAny_pure ?_)
 refine wpAny_bind (wpAny_pyIter_gen hgen ?_)
 refine wpAny_pure ⟨plainId_quiet F.plain_any_loop _, codeAny_mono (mK hr.hd (by have := hr.dp; omega) n H1 z I1 hgen hat) fun r z' hq => ?_⟩
 obtain ⟨b, H', rfl, I', q⟩ := hq
 exact ⟨.bl b, H', I', rfl, q⟩
end
section
variable {K : PySem.W.Frag} {cl : String → Option Addr} {g : G} {env : En} {σ : L2.St} {I H H' : Hp} {P : Addr}
theorem SR.tabbed (R : SR K cl g env σ I H) (hP : bp cl P) (t : GxR.Tabbed P H H') : SR K cl g env σ I H' := by
 obtain ⟨t1, t2⟩ := t
 obtain ⟨p1, p2, p3⟩ := R.tb P hP
 have keep : ∀ a o, H a = some o → (∀ ps, o ≠ .tbl ps) → H' a = some o := fun a o e n => by
  rw [t2 a fun z => ?_]; exact e
  obtain ⟨ps, q, _⟩ := p2
  rw [z, q] at e
  exact n ps (Option.some.inj e).symm
 have ko : ∀ a o d, H a = some o → aE K cl I d o → H' a = some o := fun a o d e r => keep a o e fun ps z => r.notTab z
 have tn : ∀ a, a ≠ P → H' a = H a := t2
 refine ⟨fun a o e => ?_, R.i0, fun a o h n nt => ?_, R.hi, fun a h => ?_, R.len, fun i sl h => ?_, R.dis, fun a o h => ?_, R.ex0, fun a h => ?_⟩
 ·rw [tn a fun z => by rw [z, p1] at e; cases e]; exact R.sub a o e
 ·rw [tn a fun z => nt (z ▸ hP)]; exact R.h0 a o h n nt
 ·obtain ⟨⟨o, h1⟩, h2, h3⟩ := R.oh a h
  by_cases z : a = P
  ·obtain ⟨ps, q, _⟩ := t1
   exact ⟨⟨_, by rw [z]; exact q⟩, h2, h3⟩
  ·exact ⟨⟨o, by rw [tn a z]; exact h1⟩, h2, h3⟩
 ·obtain ⟨x, hx, q⟩ := R.at_ i sl h
  refine ⟨x, hx, ?_⟩
  cases sl with
  | un => trivial
  | imm d => exact q
  | bor d => obtain ⟨a, e, o, h1, h2⟩ := q; exact ⟨a, e, o, ko a o d h1 h2, h2⟩
  | own d => obtain ⟨a, o, e, h1, h2⟩ := q; exact ⟨a, o, e, ko a o d h1 h2.1, h2⟩
  | lck d => obtain ⟨a, o, e, h1, h2⟩ := q; exact ⟨a, o, e, ko a o d h1 h2.1, h2⟩
  | io k d => obtain ⟨a, o, e, h0, h1, h2⟩ := q; exact ⟨a, o, e, h0, ko a o d h1 h2, h2⟩
 ·obtain ⟨h1, h2, h3⟩ := R.ex a o h
  by_cases z : a = P
  ·rw [z] at h
   have := R.ex0 P o h
   obtain ⟨u, hu⟩ := p3
   rw [hu] at this; cases this
  ·exact ⟨by rw [tn a z]; exact h1, h2, h3⟩
 ·obtain ⟨h1, h2, h3⟩ := R.tb a h
  by_cases z : a = P
  ·rw [z] at h1 h3 ⊢; exact ⟨h1, t1, h3⟩
  ·obtain ⟨ps, q, r⟩ := h2
   exact ⟨h1, ⟨ps, by rw [tn a z]; exact q, r⟩, h3⟩
end
def b8 (stop : Bool) (gf : D → En → Option En) (mt : MT) (me : ME) (vs : List Nat) : List D → En → Option (Bool × En)
 | [], env => some (!stop, env)
 | d :: ds, env => (gf d (bV env vs)).bind fun e1 => (mt e1).bind fun p => if p.1 then (me p.2).bind fun q => match q.1 with
   | .bl c => if c = stop then some (stop, q.2) else b8 stop gf mt me vs ds q.2
   | _ => none
  else b8 stop gf mt me vs ds p.2
def mGx (stop : Bool) (vs : List Nat) (mi : MI) (gf : D → En → Option En) (mt : MT) (me : ME) : ME := fun env => (mi env).bind fun p => if fB p.2 vs = true then (b8 stop gf mt me vs p.1 p.2).map fun q => (.bl q.1, cZ p.2 (bV q.2 vs) vs) else none
section
variable {Z : Zc}
def ZG (Z : Zc) (scope : Scope) (k : Nat) : Zc := { Z with sc := scope, all := false, k := k, me := none }
theorem inG {X : Cx} {scope : Scope} {k : Nat} (h : InF Z X) {A : Around} {s : Shared} {H : Hp} {code : Value} {fp : List Addr} {po : List (Addr × Obj)} (hr : Room k A) (hA : bD A) : InF (ZG Z scope k) (bz X A s H (cV X scope s code) fp po) :=
 ⟨h.prog, h.w, h.K, h.mg, h.base, h.N, rfl, h.calm, hr, h.nd, (fun e => Bool.noConfusion (show false = true from e)), PassesOwn.never, hA, fun _ _ e => by cases e⟩
theorem nT {T : Type} {t0 : T} {n : Nat} {J : It} {Gd : Hp → Prop} {Y : Nat → Hp → V → Hp → Prop} {g : TG} {tt : TT} {te : TE} {vs : List Nat} {σ : L2.St} {H1 : Hp} {KK : T → V → Hp → (T → Hp → Prop) → Prop} {QE : T → Hp → Prop} (hw : Walk J n Gd Y) (Pv : Nat → T → Hp → Prop) (h0 : Pv 0 t0 H1) (hl : ∀ i t H, i ≤ n → Pv i t H → Gd H)
  (hs : ∀ i t x H H', i < n → Pv i t H → Y i H x H' → g x (wipe σ vs) H' fun σ2 H2 => wipe σ2 vs = wipe σ vs ∧ tt σ2 H2 fun b H3 => if b = true then te σ2 H3 fun y H4 => KK t y H4 (Pv (i + 1)) else Pv (i + 1) t H3)
  (hd : ∀ t H, Pv n t H → QE t H) : ∃ W, (∃ m, W 0 m t0 H1) ∧ GxT g tt te vs σ J KK QE W := by
 refine ⟨fun j q t C => q + j = n ∧ Pv j t C, ⟨n, rfl, h0⟩, fun j q t C ⟨e, p⟩ => ?_⟩
 have gd := hl j t C (by omega) p
 rcases Nat.eq_zero_or_pos q with z | z
 ·have ej : j = n := by omega
  rw [ej] at p ⊢
  exact .inl ⟨hw.stops C gd, hd t C p⟩
 ·have lt : j < n := by omega
  exact .inr ⟨hw.goes j C lt gd, Pv (j + 1), fun t' C' p' => ⟨q - 1, by omega, by omega, p'⟩, fun x C' y => hs j t x C C' lt p (hw.yields j C x C' lt gd y)⟩
theorem oy {P : Addr} {stop : Bool} {wi : TI} {gt : TG} {tt : TT} {te : TE} {vs : List Nat} {mi : MI} {gf : D → En → Option En} {mt : MT} {me : ME} {ix : List Nat} (hP : bp Z.cl P) (hnd : vs.Nodup) (hix : ∀ i ∈ ix, i ∈ vs) (i2 : SI Z wi mi)
  (g2 : ∀ (g : G) (env : En) (σ : L2.St) (I H : Hp) (d : D) (v : V) (Q : L2.St → Hp → Prop) (env' : En), SR Z.K Z.cl g env σ I H → Rep Z.K Z.cl I d v → gf d env = some env' →
   (∀ σ', SR Z.K Z.cl g env' σ' I H → (∀ vs, (∀ i ∈ ix, i ∈ vs) → wipe σ' vs = wipe σ vs) → Q σ' H) → gt v σ H Q)
  (t2 : ST Z tt mt) (e2 : SE Z te me) : SE Z (tGx stop P wi gt tt te vs) (mGx stop vs mi gf mt me) := by
 intro g env σ I H Q d env' R hm k
 unfold mGx at hm
 obtain ⟨⟨ds, en⟩, e1, hm⟩ := Option.bind_eq_some_iff.mp hm
 dsimp only at hm
 split at hm
 ·rename_i hcalm
  obtain ⟨⟨bb, enf⟩, e3, hm⟩ := Option.map_eq_some_iff.mp hm
  cases hm
  refine i2 g env σ I H _ ds en R e1 fun J I1 H1 R1 s1 wd => ?_
  obtain ⟨Gd, Y, hw, hgd, hy⟩ := wd
  refine ⟨(R1.tb P hP).2.1, fun H2 tab => ?_⟩
  have R2 := R1.tabbed hP tab
  have ww : ∀ (ws us : List Nat) (τ : L2.St), (∀ u ∈ us, u ∈ ws) → wipe (wipe τ us) ws = wipe τ ws := by
   intro ws us
   induction us with
   | nil => intro τ _; rfl
   | cons u us ih =>
    intro τ hu
    show wipe ((wipe τ us).set u none) ws = wipe τ ws
    rw [fq (hu u List.mem_cons_self), ih τ fun v hv => hu v (List.mem_cons_of_mem _ hv)]
  -- where the loop ends
  have out : ∀ {en2 : En} {I2 H2 : Hp} {c : Bool}, SR Z.K Z.cl g (bV en2 vs) (wipe σ vs) I2 H2 → Same I1 I2 → (c, en2) = (bb, enf) → Q (.bl c) H2 := fun {en2 I2 H2 c} R' s' e => by
   cases e
   exact k _ I2 H2 (SR.back R1 vs hnd hcalm R' s') (s1.trans s') .bl
  refine nT (t0 := ()) hw (fun i _ H' => ∃ en2 I2, SR Z.K Z.cl g (bV en2 vs) (wipe σ vs) I2 H' ∧ Same I1 I2 ∧ b8 stop gf mt me vs (ds.drop i) en2 = some (bb, enf)) ⟨en, I1, R2.wipe vs, Same.refl _, e3⟩ (fun i _ H' _ ⟨_, I2, R', s', _⟩ => hgd I2 H' s' R'.sub) ?_ ?_
  ·rintro i _ x C C' hlt ⟨en2, I2, R', s', hm2⟩ hyld
   have hdi : ds[i]? = some ds[i] := List.getElem?_eq_getElem hlt
   rw [List.drop_eq_getElem_cons hlt] at hm2
   obtain ⟨I3, R3, s3, r3⟩ := hy i ds[i] _ _ _ I2 C x C' hdi s' R' hyld
   unfold b8 at hm2
   obtain ⟨en3, q1, hm2⟩ := Option.bind_eq_some_iff.mp hm2
   refine g2 _ _ _ I3 C' ds[i] x _ en3 R3 r3 q1 fun σ4 R4 w4 => ?_
   have hwp : wipe σ4 vs = wipe σ vs := by rw [w4 vs hix]; exact ww vs vs σ fun _ h => h
   refine ⟨hwp, ?_⟩
   obtain ⟨⟨b, en4⟩, q2, hm2⟩ := Option.bind_eq_some_iff.mp hm2
   refine t2 _ _ _ I3 C' _ b en4 R4 q2 fun I5 H5 R5 s5 => ?_
   have nxt : ∀ {I6 H6 : Hp} {en6 : En}, SR Z.K Z.cl g en6 σ4 I6 H6 → SR Z.K Z.cl g (bV en6 vs) (wipe σ vs) I6 H6 := fun {I6 H6 en6} R6 => by
    have R7 := R6.wipe vs
    rw [hwp] at R7
    exact R7
   cases b with
   | false =>
    simp only [Bool.false_eq_true, if_false] at hm2 ⊢
    exact ⟨en4, I5, nxt R5, (s'.trans s3).trans s5, hm2⟩
   | true =>
    simp only [if_true] at hm2 ⊢
    obtain ⟨⟨y, en5⟩, q3, hm2⟩ := Option.bind_eq_some_iff.mp hm2
    refine e2 _ _ _ I5 H5 _ y en5 R5 q3 fun v I6 H6 R6 s6 rv => ?_
    dsimp only at hm2
    split at hm2
    ·rename_i c
     refine ⟨c, rv.bl_inv, ?_⟩
     split at hm2
     ·rename_i hc
      rw [if_pos hc]
      exact out (nxt R6) (((s'.trans s3).trans s5).trans s6) (Option.some.inj hm2)
     ·rename_i hc
      rw [if_neg hc]
      exact ⟨en5, I6, nxt R6, ((s'.trans s3).trans s5).trans s6, hm2⟩
    ·cases hm2
  ·rintro _ C ⟨en2, I2, R', s', hm2⟩
   rw [List.drop_length] at hm2
   exact out R' s' (Option.some.inj hm2)
 ·cases hm
def gxC (scope : Scope) : Bool := (scope.names.all fun y => match y.2 with | .cell => false | _ => true) && decide (scope.names.lookup (".0" : Str) = some NameKind.local) && !scope.isCoroutine
theorem m8 {scope : Scope} (h : gxC scope = true) : (∀ y ∈ scope.names, y.2 ≠ .cell) ∧ scope.names.lookup (".0" : Str) = some NameKind.local ∧ scope.isCoroutine = false := by
 unfold gxC at h
 simp only [Bool.and_eq_true, List.all_eq_true, decide_eq_true_eq, Bool.not_eq_true'] at h
 refine ⟨fun y hy e => ?_, h.1.2, h.2⟩
 have := h.1.1 y hy
 rw [e] at this
 cases this
theorem jI {c P : Addr} {k : Nat} {elt tg iter : Expr} {ifs : List Expr} {scope : Scope} {own : List (Str × Nat)} {p pos gpos : Pos} {mi : MI} {ix : List Nat} {gf : D → En → Option En} {mt : MT} {me : ME} (hme : Z.me = some (c, P)) (hk : k + 2 ≤ Z.k) (hgl : GlZ Z "any") (hm : Z.mg "any" = none)
  (hi : IV Z tg iter mi) (ok : BlkOk Z.N Z.sc scope own) (hsc : gxC scope = true) (hg : GV (ZG Z scope k) tg ix gf) (ht : CV (ZG Z scope k) ifs mt) (he : EV (ZG Z scope k) elt me) (hP : bp Z.cl P)
  (hnd : (own.map (·.2)).Nodup := by decide) (hix : ∀ i ∈ ix, i ∈ own.map (·.2) := by decide) (hs : ∀ env v, genFold iter env v = pure v := by intro _ _; rfl)
  (hst : ∀ env, starEach [.GeneratorExp elt [⟨tg, iter, ifs, 0⟩] scope gpos] env = (false, eval (.GeneratorExp elt [⟨tg, iter, ifs, 0⟩] scope gpos) env) :: starEach [] env := by intro _; rfl) :
  EV Z (.Call (.Name "any" p) [.GeneratorExp elt [⟨tg, iter, ifs, 0⟩] scope gpos] [] pos) (mGx true (own.map (·.2)) mi gf mt me) := by
 obtain ⟨wi, i1, i2⟩ := hi
 obtain ⟨gt, g1, g2⟩ := hg
 obtain ⟨tt, t1, t2⟩ := ht
 obtain ⟨te, e1, e2⟩ := he
 obtain ⟨n1, n2, n3⟩ := m8 hsc
 exact ⟨_, fun X i => lz (k := k) i.calm i.nd (i.room.mono hk) i.gd (dt i hgl) (by rw [i.mg]; exact hm) (i.cd c P hme).2.1 (i.cd c P hme).1 (i1 X i) (by rw [i.N, i.sc]; exact ok) n1 n2 n3 (fun A s H code fp po hr hA => g1 _ (inG i hr hA)) (fun A s H code fp po hr hA => t1 _ (inG i hr hA)) (fun A s H code fp po hr hA => e1 _ (inG i hr hA)) (hs _) (hst _),
  oy hP hnd hix i2 g2 t2 e2⟩
end
end Q
namespace Q
open PySem PySem.Spec PyProof.Rows L2 GenW
end Q
namespace Q
open PySem L2
section
variable {Z : Zc}
def oF (q : List Nat → List Nat → Bool) : R2 := fun x y H Q => ∃ i j, x = .str i ∧ y = .str j ∧ Q (.bl (q i.cps.toList j.cps.toList)) H
theorem kR {X : Cx} : OpR X (compareOp .Lt) (fun x y H Q => rI0 (fun i j => .bl (decide (i < j))) x y H Q ∨ oF (fun a b => decide (a < b)) x y H Q) := OpR.or op_lt op_lt_str
def pA (neg : Bool) : D → D → Option D
 | .bl a, .bl b => some (.bl (xor neg (a == b)))
 | _, _ => none
end
end Q
namespace Q
open PySem PySem.Spec PyProof.Rows L2
section
variable {P : Program} {w : World} {K : PySem.W.Frag} {mg mb : Str → Option Value} {CX : CXT} {k : Nat} {fa a : Addr} {fd : FuncData} {x : Str} {sp : Sp} {s₁ : Shared} {vs : List Value} {ns : List Int} {H : Hp} {cs : List (Addr × Addr)}
abbrev iz : Obj := { cls := .none, data := .fields #[] }
theorem jz (KX : K.In s₁.heap) (hns : s₁.heap.Ns mainGlobals mg) (hb : s₁.heap.Ns builtinsNs mb) (hbb : ∀ x : Str, x ≠ "__name__" → mb x = bootBuiltins x) (hlim : s₁.heap.NoLimit) (hg : s₁.gens = #[])
  (ha : s₁.heap.get? a = some { cls := .type "list", data := .seq vs.toArray }) (hr : Room k callerA)
  (tab : ∀ p ∈ cs, s₁.heap.get? p.2 = some iz) (ntK : ∀ p ∈ cs, K.lookup p.2 = none) (cod : ∀ p ∈ cs, PySem.W.CodeHd s₁.heap p.1 p.2)
  (hbm : ∃ (bm : Addr) (ob : Obj), mg "__builtins__" = some (.ref bm) ∧ bm ≠ builtinsNs ∧ s₁.heap.get? bm = some ob ∧ ob.cls = .type "module" ∧ ob.dict = some builtinsNs ∧ ob.data = .plain)
  (F : ∀ base : Heap, K.In base → base.Ns mainGlobals mg → (∀ p ∈ cs, GxR.TabB base mg p.1 p.2) → FnG P w K mg base CX k fa fd [x] sp)
  (hbind : ∀ (s : Shared) (u : Value), BindsTo s fd ⟨[u], []⟩ [(x, u)]) (hT : ∀ p ∈ cs, H p.2 = some (.tbl #[])) (hO : ∀ b, H b = none ∨ b ∈ cs.map (·.2) ∨ ∃ o xs, H b = some (.frz o (.lst xs))) (hok : HOk P w H s₁.heap) (hA : ∀ b u, H b = some u → b = a ∨ b ∈ cs.map (·.2)) (hK : ∀ u, H a = some u → K.lookup a = none)
  (hsp : sp [.ref a] H (fun v _ => v = .bl true) fun _ _ _ => False) (hCX : ∀ e z, CX [] H s₁ (fun _ _ _ => False) e z → False) :
  codeAny (model P w) callerA (.call (.ref fa) ⟨[.ref a], []⟩) (l3 s₁) s₁ := by
 have tabAt : ∀ b, b ∈ cs.map (·.2) → s₁.heap.get? b = some iz := fun b q => by
  obtain ⟨p, hp, e⟩ := List.mem_map.mp q
  rw [← e]; exact tab p hp
 -- an object that is neither the script nor a table is untold
 have free : ∀ {b : Addr} {o : Obj}, s₁.heap.get? b = some o → (∀ l n, o.data ≠ .seq l n) → o.data ≠ .fields #[] → H b = none := fun {b o} e h1 h2 => by
  match q : H b with
  | none => rfl
  | some u =>
   rcases hA b u q with z | z
   ·rw [z, ha] at e; cases e; exact absurd rfl (h1 _ _)
   ·rw [tabAt b z] at e; cases e; exact absurd rfl h2
 have up : ∀ {b : Addr} {o : Obj}, s₁.heap.get? b = some o → (∀ l n, o.data ≠ .seq l n) → o.data ≠ .fields #[] → (hidT s₁.heap H).get? b = some o := fun e h1 h2 => hidT_get e (free e h1 h2)
 have ns2 : ∀ {b : Addr} {m : Str → Option Value}, s₁.heap.Ns b m → (hidT s₁.heap H).Ns b m := fun ⟨o, es, n, e, d, r⟩ => ⟨o, es, n, up e (fun l j z => by rw [d] at z; cases z) (fun z => by rw [d] at z; cases z), d, r⟩
 have K2 : K.In (hidT s₁.heap H) := fun b o e => hidT_get (KX b o e) (by
  match q : H b with
  | none => rfl
  | some u =>
   rcases hA b u q with z | z
   ·rw [z] at e q; rw [hK u q] at e; cases e
   ·obtain ⟨p, hp, z2⟩ := List.mem_map.mp z
    rw [← z2, ntK p hp] at e; cases e)
 have TB : ∀ p ∈ cs, GxR.TabB (hidT s₁.heap H) mg p.1 p.2 := fun p hp => by
  have hp2 := tab p hp
  refine ⟨?_, ?_, fun z => ?_⟩
  ·obtain ⟨o, us, f1, t1, f2, g1, q1, t2, t3, e1, r1, r2, r3, r4, r5, r6, r7, r8, r9⟩ := cod p hp
   refine ⟨o, us, f1, t1, f2, g1, q1, t2, t3, up e1 (fun l j z => by rw [r2] at z; cases z) (fun z => ?_), r1, r2, r3, r4, r5, r6, r7, r8, r9⟩
   rw [r2] at z
   cases z
   simp at r3
  ·obtain ⟨bm, ob, b1, b2, b3, b4, b5, b6⟩ := hbm
   refine ⟨bm, ob, b1, b2, fun z => ?_, fun z => ?_, up b3 (fun l j z => by rw [b6] at z; cases z) (fun z => by rw [b6] at z; cases z), b4, b5, b6⟩
   ·obtain ⟨o, es, n, e, d, _⟩ := hns
    rw [z, e] at b3; cases b3
    rw [d] at b6; cases b6
   ·rw [z, hp2] at b3; cases b3
    cases b6
  ·obtain ⟨o, es, n, e, d, _⟩ := hns
   rw [z, hp2] at e; cases e
   cases d
 have E0 : Env0 P w K mg (hidT s₁.heap H) callerA [] s₁ H := {
  frames := rfl
  mod := ⟨K2, ns2 hns, ⟨mb, ns2 hb, hbb⟩, let ⟨mc, h1, h2⟩ := hlim; ⟨mc, ns2 h1, h2⟩⟩
  bs := fun b o e => of_hidT e
  bsz := Nat.le_of_eq (hidT_size _ _)
  funs := trivial
  frf := fun b hb => nomatch hb
  hok := hok
  bare := .of_eq hg }
 refine codeAny_mono ((F _ K2 (ns2 hns) TB).go hr rfl E0 (us := [.ref a]) (vs := [.ref a]) (hbind s₁ (.ref a)) (.cons rfl .nil) hsp) fun r z q => ?_
 match r, q with
 | .error e, q => exact (hCX e z q).elim
 | .ok (.ret u), ⟨v, H', os, bare, un, hok', rv, hv⟩ =>
  cases hv
  cases rv
  have keep : ∀ b o, b ∉ cs.map (·.2) → s₁.heap.get? b = some o → z.heap.get? b = some o := fun b o nb e => by
   match q : H b with
   | none => exact un.keep b o e q (fun z => nomatch z) (by simp)
   | some u =>
    rcases hO b with y | y | ⟨ob, xs, y⟩
    ·rw [q] at y; cases y
    ·exact absurd y nb
    ·have e1 := (hok b _ y).1
     rw [e] at e1
     cases e1
     exact (hok' b _ (un.frzs b _ _ y)).1
  have grown : ∀ b, b ∈ cs.map (·.2) → ∃ p ∈ cs, b = p.2 ∧ ∃ more : Array Value, z.heap.get? b = some { cls := .none, data := .fields more } := fun b hb => by
   obtain ⟨p, hp, e⟩ := List.mem_map.mp hb
   obtain ⟨more, y⟩ := un.tbls p.2 #[] (hT p hp)
   refine ⟨p, hp, e.symm, #[] ++ more, ?_⟩
   rw [← e]
   exact hok' p.2 _ y
  refine ⟨rfl, ⟨fun b o e => ?_, fun b o e => ?_⟩, os, bare⟩
  ·by_cases hb : b ∈ cs.map (·.2)
   ·obtain ⟨p, hp, rfl, more, hm⟩ := grown b hb
    have e0 := tab p hp
    rw [e] at e0
    cases e0
    exact .inr (.inl ⟨((cod p hp).tab (tab p hp)).isCodeTable, rfl, #[], more, rfl, by rw [Array.empty_append]; exact hm⟩)
   ·exact .inl (keep b o hb e)
  ·by_cases hb : b ∈ cs.map (·.2)
   ·obtain ⟨p, hp, rfl, more, hm⟩ := grown b hb
    exact ⟨_, hm⟩
   ·exact ⟨o, keep b o hb e⟩
end
theorem ez {K : PySem.W.Frag} {x : Str} {f c P : Addr} {fd : FuncData} {a1 c1 : Value} {b1 d1 : Option Addr} {s1 e1 : Array (Option Value)} {vs : Array Value} (h1 : PySem.W.nsIn K mainGlobals x = some (some (.ref f))) (h2 : K.lookup f = some ⟨a1, b1, .func fd, s1⟩) (h3 : fd.code = .ref c)
  (h4 : K.lookup c = some ⟨c1, d1, .fields vs, e1⟩) (h5 : vs[11]? = some (.ref P)) : PySem.W.tabIn K x = some (c, P) := by
 unfold PySem.W.tabIn
 simp only [h1, h2, h3, h4, h5]
def SpG (K : PySem.W.Frag) (cs : List (Addr × Addr)) (n : Nat) : Sp := fun vs H Q _ => ∃ (a : Addr) (ns : List Int), vs = [.ref a] ∧ (∀ p ∈ cs, GxR.TabG H p.2) ∧ (∃ J, Same J H ∧ (∀ p ∈ cs, J p.2 = none) ∧ SqL K J a (ns.map V.int)) ∧ ns.length ≤ n ∧ ∀ H', Q (.bl true) H'
theorem lN {l : PySem.W.OpenLaw} {n k : Nat} {q : Program} {loose : List Str} {XP : (Str → Option Value) → Heap → Prop} {YP : World → Heap → Prop} {d : DefRec} {K : Params → PySem.W.Frag} {CX : CXT} {x : Str}
  (hn : l.most = some n) (hn2 : n ≤ sizeLine) (hdf : d.params.defaults = []) (hr : Room k callerA) (hY : ∀ (w : World) (h : Heap), YP w h → (K w.params).In h)
  (F : ∀ (w : World) (mg : Str → Option Value) (fa : Addr) (h : Heap), (K w.params).In h → h.Ns mainGlobals mg → mg d.name = some (.ref fa) → ∃ (fd : FuncData) (cs : List (Addr × Addr)), (∀ (s : Shared) (u : Value), BindsTo s fd ⟨[u], []⟩ [(x, u)]) ∧
   (∀ p ∈ cs, ∃ (y : Str) (e : DefRec), (recsOf q).find? (fun r => r.name == y) = some e ∧ PySem.W.tabIn (K w.params) y = some p) ∧ PySem.W.noTabs (K w.params) = true ∧
   ∀ base : Heap, (K w.params).In base → base.Ns mainGlobals mg → (∀ p ∈ cs, GxR.TabB base mg p.1 p.2) → FnG l.prog w (K w.params) mg base CX k fa fd [x] (SpG (K w.params) cs n))
  (hCX : ∀ (H : Hp) (s : Shared) (e : Value) (z : Shared), CX [] H s (fun _ _ _ => False) e z → False) : PySem.W.WalkO q loose XP YP l.row.toRowW d [] (fun f vs => PySem.call f vs) := by
 refine Att.attach_call hn hdf fun w s₀ s₁ mg mb fa o pm cd doc a vs ns G Y _ _ _ hmg ha hints hlen hg => ?_
 have KX := hY w _ Y
 obtain ⟨fd, cs, hb, hcs, hnt, hF⟩ := F w mg fa _ KX G.T.g hmg
 have rv := vals_of_ints hints
 have hl := hints.length
 have hz : (ns.map V.int).length ≤ sizeLine := by rw [List.length_map]; omega
 have sz : vs.toArray.size ≤ sizeLine := by rw [List.size_toArray, hl]; omega
 have both : ∀ p ∈ cs, PySem.W.CodeHd s₁.heap p.1 p.2 ∧ s₁.heap.get? p.2 = some iz := fun p hp => by
  obtain ⟨y, e, h1, h2⟩ := hcs p hp
  exact PySem.W.tab_of G.T KX h1 h2
 have ntK : ∀ p ∈ cs, (K w.params).lookup p.2 = none := fun p hp => by
  match q : (K w.params).lookup p.2 with
  | none => rfl
  | some o =>
   have e := KX _ _ q
   rw [(both p hp).2] at e
   cases e
   have h2 := List.all_eq_true.mp hnt _ (PySem.W.mem_of_lookupK q)
   exact absurd (show false = true from h2) Bool.false_ne_true
 have ant : a ∉ cs.map (·.2) := fun q => by
  obtain ⟨p, hp, e⟩ := List.mem_map.mp q
  have h2 := (both p hp).2
  rw [e, ha] at h2
  have h3 := congrArg Obj.cls (Option.some.inj h2)
  cases h3
 have mem2 : ∀ p ∈ cs, p.2 ∈ cs.map (·.2) := fun p hp => List.mem_map.mpr ⟨p, hp, rfl⟩
 have base := fun H => jz (H := H) (cs := cs) KX G.T.g G.T.b G.T.builtins G.T.nolimit hg ha hr (fun p hp => (both p hp).2) ntK (fun p hp => (both p hp).1) G.T.bmain hF hb
 have tb0 : ∀ {H : Hp}, (∀ p ∈ cs, H p.2 = some (.tbl #[])) → ∀ p ∈ cs, GxR.TabG H p.2 := fun h p hp => ⟨#[], h p hp, True.intro⟩
 match hk : (K w.params).lookup a with
 | some o =>
  have e := KX a o hk
  rw [ha] at e
  cases e
  let H : Hp := fun b => if b ∈ cs.map (·.2) then some (.tbl #[]) else none
  have hT : ∀ p ∈ cs, H p.2 = some (.tbl #[]) := fun p hp => if_pos (mem2 p hp)
  have inH : ∀ {b u}, H b = some u → b ∈ cs.map (·.2) ∧ u = .tbl #[] := fun {b u} e => by
   by_cases hb : b ∈ cs.map (·.2)
   ·exact ⟨hb, (Option.some.inj ((show H b = some (.tbl #[]) from if_pos hb).symm.trans e)).symm⟩
   ·rw [show H b = none from if_neg hb] at e; cases e
  refine base H hT (fun b => ?_) (fun b u e => ?_) (fun b u e => .inr (inH e).1) (fun u e => absurd (inH e).1 ant) ⟨a, ns, rfl, tb0 hT, ⟨fun _ => none, (fun b u z => by cases z), fun _ _ => rfl, .inr ⟨_, vs.toArray, _, hk, rfl, rfl, rfl, sz, by simpa using rv⟩⟩, hlen, fun _ => rfl⟩ fun e z => hCX _ _ e z
  ·by_cases hb : b ∈ cs.map (·.2)
   ·exact .inr (.inl hb)
   ·exact .inl (if_neg hb)
  ·obtain ⟨hb, rfl⟩ := inH e
   obtain ⟨p, hp, e2⟩ := List.mem_map.mp hb
   rw [← e2]
   exact (both p hp).2
 | none =>
  let so : HO := .frz { cls := .type "list", data := .seq vs.toArray } (.lst (ns.map V.int))
  let J : Hp := fun b => if b = a then some so else none
  let H : Hp := fun b => if b = a then some so else if b ∈ cs.map (·.2) then some (.tbl #[]) else none
  have Ha : H a = some so := if_pos rfl
  have hT : ∀ p ∈ cs, H p.2 = some (.tbl #[]) := fun p hp => by
   show (if p.2 = a then _ else _) = _
   rw [if_neg (fun z => ant (by rw [← z]; exact mem2 p hp)), if_pos (mem2 p hp)]
  have inH : ∀ {b u}, H b = some u → (b = a ∧ u = so) ∨ (b ∈ cs.map (·.2) ∧ u = .tbl #[]) := fun {b u} e => by
   by_cases hb : b = a
   ·subst hb; rw [Ha] at e; exact .inl ⟨rfl, (Option.some.inj e).symm⟩
   ·have e : (if b = a then some so else if b ∈ cs.map (·.2) then some (HO.tbl #[]) else none) = some u := e
    rw [if_neg hb] at e
    split at e
    ·rename_i h2; exact .inr ⟨h2, (Option.some.inj e).symm⟩
    ·cases e
  have hJ : Same J H := fun b u e => by
   by_cases hb : b = a
   ·subst hb
    rw [show J b = some so from if_pos rfl] at e
    rw [Ha]; exact e
   ·rw [show J b = none from if_neg hb] at e; cases e
  refine base H hT (fun b => ?_) (fun b u e => ?_) (fun b u e => (inH e).imp (·.1) (·.1)) (fun u e => hk) ⟨a, ns, rfl, tb0 hT, ⟨J, hJ, fun p hp => if_neg (fun z => ant (by rw [← z]; exact mem2 p hp)), .inl (.inr ⟨_, if_pos rfl⟩)⟩, hlen, fun _ => rfl⟩ fun e z => hCX _ _ e z
  ·match q : H b with
   | none => exact .inl rfl
   | some u =>
    rcases inH q with ⟨_, rfl⟩ | ⟨h2, _⟩
    ·exact .inr (.inr ⟨_, _, rfl⟩)
    ·exact .inr (.inl h2)
  ·rcases inH e with ⟨rfl, rfl⟩ | ⟨hb, rfl⟩
   ·exact ⟨ha, hz, vs, _, rv, ha⟩
   ·obtain ⟨p, hp, e2⟩ := List.mem_map.mp hb
    rw [← e2]
    exact (both p hp).2
end Q
namespace Q
open PySem PySem.Spec PyProof.Rows L2
section
variable {Z : Zc}
def kW (c : String) (f : Str) (i : Nat) (j : Int) : MS := fun env => (env[i]?.bind Sl.own?).bind fun d => match gZ c f d with
 | some (.int v) => match d with
  | .obj c' ks xs => if c' = c ∧ ks.length < 1000 ∧ xs.length < 1000 then some (.nx (aI env i (.obj c (gO f ks) (gS f (.int (v + j)) ks xs)))) else none
  | _ => none
 | _ => none
end
end Q
namespace Q
open PySem PySem.Spec PyProof.Rows L2
section
variable {Z : Zc}
def pN (i : Nat) (e : ME) : MS := fun env => (bF env i).bind fun _ => (e env).bind fun p => (bF p.2 i).bind fun xs => match p.1 with
 | .lst zs => if xs.length + zs.length ≤ sizeLine then some (.nx (aI p.2 i (.lst (xs ++ zs)))) else none
 | _ => none
end
@[simp] theorem qp (i : Nat) (e : ME) (env : En) : pN i e env = (bF env i).bind fun _ => (e env).bind fun p => (bF p.2 i).bind fun xs => match p.1 with
 | .lst zs => if xs.length + zs.length ≤ sizeLine then some (.nx (aI p.2 i (.lst (xs ++ zs)))) else none
 | _ => none := rfl
end Q
namespace Q
open Nd PySem PySem.Spec PyProof.Rows L2
end Q
namespace Q
open PySem PySem.Spec PyProof.Rows L2
section
variable {Z : Zc}
def gR : List D → Option D
 | [.str z] => (PySem.intText? z).bind fun n => if z.length ≤ 640 then some (.int n) else none
 | _ => none
def kJ : List V → Hp → VK → Prop := fun xs H Q => ∃ a n, xs = [.str a] ∧ PySem.intText? a = some n ∧ a.length ≤ 640 ∧ Q (.int n) H
theorem kY {X : Cx} : CallR X (.type "int") kJ := call_int_str
theorem lj : dg Z kJ gR := by
 intro I H x z vs Q s rs h k
 unfold gR at h
 split at h
 ·obtain ⟨n, h1, h⟩ := Option.bind_eq_some_iff.mp h
  split at h
  ·cases h
   obtain ⟨v, rfl, r⟩ := rs.one
   cases r.str
   exact ⟨_, _, rfl, h1, by assumption, k _ .int⟩
  ·cases h
 ·cases h
end
@[simp] theorem qb (z : Str) : gR [.str z] = (PySem.intText? z).bind fun n => if z.length ≤ 640 then some (.int n) else none := rfl
end Q
namespace Q
open PySem L2
def W (m : MS) (env : En) (Q : Fl → Prop) : Prop := ∃ fl, m env = some fl ∧ Q fl
def sqK (b : MS) (Q : Fl → Prop) : Fl → Prop
 | .nx e => W b e Q
 | fl => Q fl
def lp (P : En → Prop) (Q : Fl → Prop) : Fl → Prop
 | .nx e => P e
 | .ct e => P e
 | .bk e => Q (.nx e)
 | .ret md d e => Q (.ret md d e)
def Rt (R : Md → D → Prop) : Fl → Prop
 | .nx _ => R .imm .non
 | .ret md d _ => R md d
 | _ => False
def eL (j : Nat) (R : Md → D → D → Prop) : Fl → Prop
 | .nx e => ∃ x, e[j]? = some (.io 0 x) ∧ R .imm .non x
 | .ret md d e => ∃ x, e[j]? = some (.io 0 x) ∧ R md d x
 | _ => False
def Gt {α : Type} (o : Option α) (F : α → Prop) : Prop := ∃ p, o = some p ∧ F p
@[simp] theorem ak {α : Type} (p : α) (F : α → Prop) : Gt (some p) F ↔ F p := by simp [Gt]
@[simp] theorem qB {α : Type} (F : α → Prop) : Gt (none : Option α) F ↔ False := by simp [Gt]
theorem d8 {α : Type} (o : Option α) (F : α → Prop) : Gt o F ↔ ∃ p, o = some p ∧ F p := Iff.rfl
section
variable {a b : MS} {env e : En} {Q : Fl → Prop} {i : Nat} {x : ME} {c : MT} {P : En → Prop} {R : Md → D → Prop} {R2 : Md → D → D → Prop} {md : Md} {d : D} {j : Nat}
@[simp] theorem aM : sqK b Q (.nx e) ↔ W b e Q := Iff.rfl
@[simp] theorem rn : sqK b Q (.bk e) ↔ Q (.bk e) := Iff.rfl
@[simp] theorem rB : sqK b Q (.ct e) ↔ Q (.ct e) := Iff.rfl
@[simp] theorem fb : sqK b Q (.ret md d e) ↔ Q (.ret md d e) := Iff.rfl
@[simp] theorem nQ : lp P Q (.nx e) ↔ P e := Iff.rfl
@[simp] theorem sk : lp P Q (.ct e) ↔ P e := Iff.rfl
@[simp] theorem rZ : lp P Q (.bk e) ↔ Q (.nx e) := Iff.rfl
@[simp] theorem rL : lp P Q (.ret md d e) ↔ Q (.ret md d e) := Iff.rfl
@[simp] theorem rJ : Rt R (.ret md d e) ↔ R md d := Iff.rfl
@[simp] theorem r0 : Rt R (.nx e) ↔ R .imm .non := Iff.rfl
@[simp] theorem p6 : eL j R2 (.ret md d e) ↔ ∃ x, e[j]? = some (.io 0 x) ∧ R2 md d x := Iff.rfl
@[simp] theorem qJ : eL j R2 (.nx e) ↔ ∃ x, e[j]? = some (.io 0 x) ∧ R2 .imm .non x := Iff.rfl
@[simp] theorem aO : W (av a b) env Q ↔ W a env (sqK b Q) := by
 unfold W av
 constructor
 ·rintro ⟨fl, h, q⟩
  obtain ⟨f1, h1, h2⟩ := Option.bind_eq_some_iff.mp h
  refine ⟨f1, h1, ?_⟩
  cases f1 with
  | nx e => exact ⟨fl, h2, q⟩
  | _ => cases h2; exact q
 ·rintro ⟨fl, h, q⟩
  rw [h]
  cases fl with
  | nx e => exact q
  | _ => exact ⟨_, rfl, q⟩
@[simp] theorem bI : W aY env Q ↔ Q (.nx env) := by simp [W, aY]
@[simp] theorem su : W ng env Q ↔ Q (.bk env) := by simp [W, ng]
@[simp] theorem sr : W mW env Q ↔ Q (.ct env) := by simp [W, mW]
@[simp] theorem bZ : W (aP i x) env Q ↔ Gt (x env) fun p => i < p.2.length ∧ Q (.nx (p.2.set i (.imm p.1))) := by
 rw [d8]
 unfold W aP
 cases h : x env with
 | none => simp
 | some p => by_cases hl : i < p.2.length <;> simp [hl]
@[simp] theorem jl : W (ek i x) env Q ↔ Gt (x env) fun p => i < p.2.length ∧ Q (.nx (p.2.set i (.own p.1))) := by
 rw [d8]
 unfold W ek
 cases h : x env with
 | none => simp
 | some p => by_cases hl : i < p.2.length <;> simp [hl]
@[simp] theorem dS : W (aN x) env Q ↔ Gt (x env) fun p => Q (.ret .imm p.1 p.2) := by
 rw [d8]
 unfold W aN
 cases h : x env <;> simp
@[simp] theorem rm : W (fO x) env Q ↔ Gt (x env) fun p => Q (.ret .new p.1 p.2) := by
 rw [d8]
 unfold W fO
 cases h : x env <;> simp
@[simp] theorem bS : W (bj c a b) env Q ↔ Gt (c env) fun p => if p.1 = true then W a p.2 Q else W b p.2 Q := by
 rw [d8]
 unfold W bj
 cases h : c env with
 | none => simp
 | some p => cases hp : p.1 <;> simp [hp]
end
@[simp] theorem c8 (d : D) (env : En) : mC d env = some (d, env) := rfl
@[simp] theorem rP (i : Nat) (env : En) : aC i env = (match env[i]? with
 | some (.imm d) => some (d, env)
 | some (.own d) => some (d, env.set i (.imm d))
 | _ => none) := rfl
@[simp] theorem cU (i : Nat) (env : En) : af i env = (env[i]?.bind Sl.rd).map fun _ => (Ls.slot i, env) := rfl
@[simp] theorem bY (m : ME) (env : En) : aa m env = (m env).map fun p => (Ls.fix p.1, p.2) := rfl
@[simp] theorem dz (f : D → D → Option D) (a b : ML) (env : En) : ae f a b env = (a env).bind fun p => (b p.2).bind fun q => (p.1.get q.2).bind fun x => (q.1.get q.2).bind fun y => (f x y).map fun z => (z, q.2) := rfl
@[simp] theorem dj (m : ME) (env : En) : ao m env = (m env).bind fun p => match p.1 with
 | .bl b => some (b, p.2)
 | _ => none := rfl
@[simp] theorem bX (d : D) (env : En) : (Ls.fix d).get env = some d := rfl
@[simp] theorem get_slot (i : Nat) (env : En) : (Ls.slot i).get env = env[i]?.bind Sl.rd := rfl
@[simp] theorem sh : Sl.rd .un = none := rfl
@[simp] theorem dm (d : D) : Sl.rd (.imm d) = some d := rfl
@[simp] theorem rE (d : D) : Sl.rd (.bor d) = some d := rfl
@[simp] theorem ru (d : D) : Sl.rd (.own d) = some d := rfl
@[simp] theorem si (k : Nat) (d : D) : Sl.rd (.io k d) = some d := rfl
@[simp] theorem qH (d : D) : Sl.own? (.own d) = some d := rfl
@[simp] theorem rj (k : Nat) (d : D) : Sl.own? (.io k d) = some d := rfl
@[simp] theorem qD (d x : D) : Sl.put (.own d) x = .own x := rfl
@[simp] theorem rg (k : Nat) (d x : D) : Sl.put (.io k d) x = .io k x := rfl
@[simp] theorem iu (a b : MT) (env : En) : eu a b env = (a env).bind fun p => if p.1 then b p.2 else some (false, p.2) := rfl
@[simp] theorem oQ (a b : MT) (env : En) : mOr a b env = (a env).bind fun p => if p.1 then some (true, p.2) else b p.2 := rfl
@[simp] theorem rH (a : MT) (env : En) : b9 a env = (a env).map fun p => (!p.1, p.2) := rfl
@[simp] theorem qC (a b : ME) (env : En) : oO a b env = (ao a env).bind fun p => if p.1 then b p.2 else some (.bl false, p.2) := rfl
@[simp] theorem ju (a b : ME) (env : En) : fy a b env = (ao a env).bind fun p => if p.1 then some (.bl true, p.2) else b p.2 := rfl
@[simp] theorem qu (a : ME) (env : En) : oa a env = (ao a env).map fun p => (.bl (!p.1), p.2) := rfl
@[simp] theorem iq (m : ML) (env : En) : cb m env = (m env).bind fun p => (p.1.get p.2).bind fun d => (gp d).map fun b => (b, p.2) := rfl
@[simp] theorem qK (env : En) : aZ env = some ([], env) := rfl
@[simp] theorem pH (a : ME) (r : En → Option (List D × En)) (env : En) : ai a r env = (a env).bind fun p => (r p.2).map fun q => (p.1 :: q.1, q.2) := rfl
theorem jV : 10000 ≤ sizeLine := by decide
theorem hM {n : Nat} (h : n ≤ 10000) : n ≤ sizeLine := Nat.le_trans h jV
theorem fK {a : En → Option (List D × En)} {env e : En} {xs : List D} (h : a env = some (xs, e)) (hl : xs.length ≤ 10000) : bw a env = some (.lst xs, e) := by
 have h2 : xs.length ≤ sizeLine := hM hl
 unfold bw; rw [h]; simp only [Option.bind_some]; rw [if_pos h2]
theorem fI {a : En → Option (List D × En)} {env e : En} {xs : List D} (h : a env = some (xs, e)) (hl : xs.length ≤ 10000) : bK a env = some (.tup xs, e) := by
 have h2 : xs.length ≤ sizeLine := hM hl
 unfold bK; rw [h]; simp only [Option.bind_some]; rw [if_pos h2]
@[simp] theorem ow (env : En) : bw aZ env = some (.lst [], env) := fK rfl (by simp)
@[simp] theorem rT (a : ME) (env : En) : bw (ai a aZ) env = (a env).map fun p => (.lst [p.1], p.2) := by
 cases h : a env with
 | none => unfold bw; simp [h]
 | some p => exact fK (xs := [p.1]) (by simp [h]) (by simp)
@[simp] theorem sx (a b : ME) (env : En) : bw (ai a (ai b aZ)) env = (a env).bind fun p => (b p.2).map fun q => (.lst [p.1, q.1], q.2) := by
 cases h : a env with
 | none => unfold bw; simp [h]
 | some p =>
  cases h2 : b p.2 with
  | none => unfold bw; simp [h, h2]
  | some q => simp only [Option.bind_some, h2, Option.map_some]; exact fK (xs := [p.1, q.1]) (by simp [h, h2]) (by simp)
@[simp] theorem rS (a b c : ME) (env : En) : bw (ai a (ai b (ai c aZ))) env = (a env).bind fun p => (b p.2).bind fun q => (c q.2).map fun r => (.lst [p.1, q.1, r.1], r.2) := by
 cases h : a env with
 | none => unfold bw; simp [h]
 | some p =>
  cases h2 : b p.2 with
  | none => unfold bw; simp [h, h2]
  | some q =>
   cases h3 : c q.2 with
   | none => unfold bw; simp [h, h2, h3]
   | some r => simp only [Option.bind_some, h2, h3, Option.map_some]; exact fK (xs := [p.1, q.1, r.1]) (by simp [h, h2, h3]) (by simp)
@[simp] theorem rY (a b : ME) (env : En) : bK (ai a (ai b aZ)) env = (a env).bind fun p => (b p.2).map fun q => (.tup [p.1, q.1], q.2) := by
 cases h : a env with
 | none => unfold bK; simp [h]
 | some p =>
  cases h2 : b p.2 with
  | none => unfold bK; simp [h, h2]
  | some q => simp only [Option.bind_some, h2, Option.map_some]; exact fI (xs := [p.1, q.1]) (by simp [h, h2]) (by simp)
@[simp] theorem rW (a b c : ME) (env : En) : bK (ai a (ai b (ai c aZ))) env = (a env).bind fun p => (b p.2).bind fun q => (c q.2).map fun r => (.tup [p.1, q.1, r.1], r.2) := by
 cases h : a env with
 | none => unfold bK; simp [h]
 | some p =>
  cases h2 : b p.2 with
  | none => unfold bK; simp [h, h2]
  | some q =>
   cases h3 : c q.2 with
   | none => unfold bK; simp [h, h2, h3]
   | some r => simp only [Option.bind_some, h2, h3, Option.map_some]; exact fI (xs := [p.1, q.1, r.1]) (by simp [h, h2, h3]) (by simp)
@[simp] theorem ec (env : En) : aJ env = some ([], env) := rfl
@[simp] theorem dq (a : ML) (r : En → Option (List Ls × En)) (env : En) : aw a r env = (a env).bind fun p => (r p.2).map fun q => (p.1 :: q.1, q.2) := rfl
@[simp] theorem fY (f : List D → Option D) (a : En → Option (List Ls × En)) (env : En) : mBi f a env = (a env).bind fun p => (cP p.1 p.2).bind fun ds => (f ds).map fun z => (z, p.2) := rfl
@[simp] theorem c6 (env : En) : cP [] env = some [] := rfl
@[simp] theorem cJ (l : Ls) (ls : List Ls) (env : En) : cP (l :: ls) env = (l.get env).bind fun d => (cP ls env).map fun ds => d :: ds := rfl
@[simp] theorem qt (a : ME) (env : En) : df a env = (a env).bind fun p => (p.1.walk?).map fun xs => (xs, p.2) := rfl
@[simp] theorem om (i : Nat) (d : D) (env : En) : gN i d env = if i < env.length then some (env.set i (.imm d)) else none := rfl
@[simp] theorem rq (env : En) : dw env = some (true, env) := rfl
@[simp] theorem iH (env : En) : aB env = some ([], env) := rfl
@[simp] theorem lR (a : ME) (r : MG) (env : En) : aD a r env = (a env).bind fun p => (r p.2).map fun q => (.imm p.1 :: q.1, q.2) := rfl
@[simp] theorem lJ (i : Nat) (r : MG) (env : En) : cz i r env = (env[i]?.bind Sl.rd).bind fun _ => (r env).map fun q => (.bor i :: q.1, q.2) := rfl
@[simp] theorem nz (i : Nat) (r : MG) (env : En) : cIo i r env = (env[i]?.bind Sl.own?).bind fun _ => (r env).map fun q => (.io i :: q.1, q.2) := rfl
@[simp] theorem rf (c : String) (f : Str) (a : ML) (env : En) : o7 c f a env = (a env).bind fun p => (p.1.get p.2).bind fun x => (gZ c f x).map fun z => (z, p.2) := rfl
@[simp] theorem o8 (env : En) : cy env = some (none, env) := rfl
@[simp] theorem p5 (a : ME) (env : En) : ck a env = (a env).bind fun p => match p.1 with
 | .int i => some (some i, p.2)
 | _ => none := rfl
@[simp] theorem sj (f : D → Option Int → Option Int → Option D) (a : ML) (lo hi : En → Option (Option Int × En)) (env : En) : mSl f a lo hi env = (a env).bind fun p => (lo p.2).bind fun q => (hi q.2).bind fun r => (p.1.get r.2).bind fun x => (f x q.1 r.1).map fun z => (z, r.2) := rfl
section
variable {a b : MS} {env e : En} {Q : Fl → Prop} {i : Nat} {x y : ME} {c : MT}
@[simp] theorem sq : W (eG i x) env Q ↔ Gt (bF env i) fun ys => Gt (x env) fun p => Gt (bF p.2 i) fun xs => xs.length < sizeLine ∧ Q (.nx (aI p.2 i (.lst (xs ++ [p.1])))) := by
 simp only [Gt]
 unfold W eG
 cases h : bF env i with
 | none => simp
 | some ys =>
  cases h1 : x env with
  | none => simp
  | some p =>
   cases h2 : bF p.2 i with
   | none => simp [h2]
   | some xs => by_cases hl : xs.length < sizeLine <;> simp [hl, h2]
@[simp] theorem rO : W (fX i x y) env Q ↔ Gt (x env) fun p => Gt (bF p.2 i) fun ys => Gt (y p.2) fun q => Gt (bF q.2 i) fun xs => Gt (match q.1 with | .int n => some n | _ => none) fun n => Gt (ixN xs.length n) fun k => Q (.nx (aI q.2 i (.lst (xs.set k p.1)))) := by
 have hm : ∀ (d : D) (F : Int → Prop), Gt (match d with | .int n => some n | _ => none) F ↔ ∃ n, d = .int n ∧ F n := fun d F => by cases d <;> simp
 simp only [hm]
 simp only [Gt]
 unfold W fX
 cases h1 : x env with
 | none => simp
 | some p =>
  cases h : bF p.2 i with
  | none => simp [h]
  | some ys =>
   cases h2 : y p.2 with
   | none => simp [h, h2]
   | some q =>
    obtain ⟨qd, qe⟩ := q
    cases h3 : bF qe i with
    | none => simp [h, h2, h3]
    | some xs =>
     cases qd with
     | int n =>
      cases hk : ixN xs.length n with
      | none => simp [h, h2, h3, hk]
      | some k =>
       simp only [Option.bind_some, h, h2, h3, hk, Option.map_some]
       constructor
       ·rintro ⟨fl, e, q⟩
        cases e
        exact ⟨p, rfl, ys, h, (.int n, qe), h2, xs, h3, n, rfl, k, hk, q⟩
       ·rintro ⟨p', e0, ys', e1, q', e2, xs', e3, n', e, k', e4, q⟩
        cases e0
        rw [h2] at e2; cases e2
        cases e
        rw [h3] at e3; cases e3
        rw [hk] at e4; cases e4
        exact ⟨_, rfl, q⟩
     | _ => simp [h, h2, h3]
@[simp] theorem q9 : W (dR i) env Q ↔ (∃ d, env[i]? = some (.own d) ∧ Q (.ret .new d (env.set i .un))) ∨ ∃ d, env[i]? = some (.imm d) ∧ Q (.ret .imm d env) := by
 unfold W dR
 cases h : env[i]? with
 | none => simp
 | some s => cases s <;> simp
@[simp] theorem sd {f : Int → Int → Int} : W (mR f i x) env Q ↔ Gt (match env[i]? with | some (.imm (.int z)) => some z | _ => none) fun z => Gt (x env) fun p => Gt (match p.1 with | .int y => some y | _ => none) fun y => i < p.2.length ∧ Q (.nx (p.2.set i (.imm (.int (f z y))))) := by
 unfold W mR
 cases h : env[i]? with
 | none => simp
 | some s =>
  cases s with
  | imm d =>
   cases d with
   | int z =>
    cases h1 : x env with
    | none => simp
    | some p =>
     obtain ⟨pd, pe⟩ := p
     cases pd with
     | int y => by_cases hl : i < pe.length <;> simp [hl]
     | _ => simp
   | _ => simp
  | _ => simp
@[simp] theorem p0 (env : En) (i : Nat) (d : D) : aI env i d = (match env[i]? with
 | some s => env.set i (s.put d)
 | none => env) := rfl
@[simp] theorem qc (env : En) (i : Nat) : bF env i = (env[i]?).bind fun s => (s.own?).bind fun d => match d with
 | .lst xs => some xs
 | _ => none := rfl
theorem gQ {it : MI} {gf : D → En → Option En} {body : MS} {ds : List D} {e0 : En} (hi : it env = some (ds, e0)) (P : Nat → En → Prop) (h0 : P 0 e0)
  (hs : ∀ i d e, ds[i]? = some d → P i e → ∃ e1, gf d e = some e1 ∧ W body e1 (lp (P (i + 1)) Q)) (hend : ∀ e, P ds.length e → Q (.nx e)) : W (cF it gf body) env Q := by
 have key : ∀ (ds : List D) (P : Nat → En → Prop) (e0 : En), P 0 e0 → (∀ i d e, ds[i]? = some d → P i e → ∃ e1, gf d e = some e1 ∧ W body e1 (lp (P (i + 1)) Q)) → (∀ e, P ds.length e → Q (.nx e)) → ∃ fl, dO gf body ds e0 = some fl ∧ Q fl := by
  intro ds
  induction ds with
  | nil => intro P e0 h0 _ he; exact ⟨.nx e0, rfl, he _ h0⟩
  | cons d ds ih =>
   intro P e0 h0 hs he
   obtain ⟨e1, h1, fl, h2, h3⟩ := hs 0 d e0 rfl h0
   have step : ∀ e2, P 1 e2 → ∃ fl, dO gf body ds e2 = some fl ∧ Q fl := fun e2 hp => ih (fun i => P (i + 1)) e2 hp (fun i d' e' hd hp' => hs (i + 1) d' e' (by simpa using hd) hp') (fun e' hp' => he e' (by simpa using hp'))
   cases fl with
   | nx e2 =>
    obtain ⟨fl, h4, h5⟩ := step e2 h3
    exact ⟨fl, by simp [dO, h1, h2, h4], h5⟩
   | ct e2 =>
    obtain ⟨fl, h4, h5⟩ := step e2 h3
    exact ⟨fl, by simp [dO, h1, h2, h4], h5⟩
   | bk e2 => exact ⟨.nx e2, by simp [dO, h1, h2], h3⟩
   | ret md r e2 => exact ⟨.ret md r e2, by simp [dO, h1, h2], h3⟩
 obtain ⟨fl, h1, h2⟩ := key ds P e0 h0 hs hend
 exact ⟨fl, by simp [cF, hi, h1], h2⟩
end
theorem gh {N : List Str} {np : Nat} {mf : MS} {a : MG} {env e1 : En} {as : List Ag} {ss : List Sl} {R : Md → D → D → Prop} {i j : Nat} (h1 : a env = some (as, e1)) (h2 : ay as = [i]) (hb : i ∉ bN as) (hj : ax 0 as = [j]) (h3 : as.length = np) (h4 : aS e1 0 as = some ss)
  (h5 : W mf (ss ++ List.replicate (N.length - ss.length) .un) (eL j R)) : ∃ md d x, R md d x ∧ aj N np mf a env = some (d, aI e1 i x) ∧ (md = .new → cw N np mf a env = some (d, aI e1 i x)) := by
 have hap : apart as = true := by
  unfold apart; rw [h2]
  simp only [Bool.and_eq_true, List.all_eq_true, decide_eq_true_eq]
  exact ⟨by simp, fun k hk => by simp; intro z; exact hb (by rw [← z]; exact hk)⟩
 obtain ⟨fl, h6, h7⟩ := h5
 have fin : ∀ md d x, R md d x → cG N mf a env = some (md, d, aI e1 i x) → ∃ md d x, R md d x ∧ aj N np mf a env = some (d, aI e1 i x) ∧ (md = .new → cw N np mf a env = some (d, aI e1 i x)) := fun md d x hr hc => by
  refine ⟨md, d, x, hr, ?_, fun hn => ?_⟩
  ·unfold aj
   rw [h1, hc, if_pos (by simp [h3])]; rfl
  ·unfold cw
   rw [h1, hc, if_pos (by simp [h3]), hn]; rfl
 have pre : ∀ md d e x, e[j]? = some (.io 0 x) → (fl = .nx e ∧ md = .imm ∧ d = .non ∨ fl = .ret md d e) → cG N mf a env = some (md, d, aI e1 i x) := by
  intro md d e x hx hc
  unfold cG
  rw [h1]
  simp only [Option.bind_some]
  rw [if_pos hap, h4]
  simp only [Option.bind_some]
  rw [h6, h2, hj]
  rcases hc with ⟨rfl, rfl, rfl⟩ | rfl
  ·simp only [Option.bind_some, bJ, hx]; rfl
  ·simp only [Option.bind_some, bJ, hx]; rfl
 cases fl with
 | nx e => obtain ⟨x, hx, hr⟩ := h7; exact fin _ _ x hr (pre _ _ e x hx (.inl ⟨rfl, rfl, rfl⟩))
 | ret md d e => obtain ⟨x, hx, hr⟩ := h7; exact fin _ _ x hr (pre _ _ e x hx (.inr rfl))
 | bk e => exact h7.elim
 | ct e => exact h7.elim
@[simp] theorem q8 (lo : Int) (n i : Nat) : (bW lo n)[i]? = if i < n then some (.int (lo + i)) else none := by
 unfold bW
 by_cases h : i < n <;> simp [h]
@[simp] theorem qL (lo : Int) (n : Nat) : (bW lo n).length = n := by simp [bW]
end Q
namespace Q
open PySem L2
theorem fD {α : Type} (xs : List α) (n : Int) (h : 0 ≤ n) : atI xs n = xs[n.toNat]? := by
 unfold atI ixN
 rw [if_pos h]
 by_cases h1 : n < xs.length
 ·rw [if_pos h1]; rfl
 ·rw [if_neg h1, List.getElem?_eq_none (by omega)]; rfl
@[simp] theorem fk {α : Type} (xs : List α) (n : Nat) : atI xs (n : Int) = xs[n]? := by rw [fD _ _ (by omega)]; simp
@[simp] theorem rR {α : Type} (xs : List α) : atI xs 0 = xs[0]? := by rw [fD _ _ (by omega)]; simp
@[simp] theorem rX {α : Type} (xs : List α) : atI xs 1 = xs[1]? := by rw [fD _ _ (by omega)]; simp
@[simp] theorem rV {α : Type} (xs : List α) : atI xs 2 = xs[2]? := by rw [fD _ _ (by omega)]; simp
theorem jY {n k : Nat} (h : k < n) : ixN n (k : Int) = some k := by
 unfold ixN; rw [if_pos (by omega), if_pos (by omega)]; simp
@[simp] theorem sf {n : Nat} : ixN (n + 1 + 1) 1 = some 1 := jY (k := 1) (by omega)
@[simp] theorem l7 (xs : List D) (i : Int) : dIx (.lst xs) (.int i) = atI xs i := rfl
@[simp] theorem qZ (xs : List D) (i : Int) : dIx (.scr xs) (.int i) = atI xs i := rfl
@[simp] theorem ix_tup (xs : List D) (i : Int) : dIx (.tup xs) (.int i) = atI xs i := rfl
theorem ix_str (z : Str) (i : Int) : dIx (.str z) (.int i) = if z.length ≤ sizeLine then (atI z.cps.toList i).map fun c => .str ⟨#[c]⟩ else none := rfl
@[simp] theorem add_int (a b : Int) : aT (.int a) (.int b) = some (.int (a + b)) := rfl
@[simp] theorem add_str (a b : Str) : aT (.str a) (.str b) = if a.length + b.length ≤ sizeLine then some (.str (a ++ b)) else none := rfl
@[simp] theorem sub_int (a b : Int) : gU (.int a) (.int b) = some (.int (a - b)) := rfl
theorem mul_int (a b : Int) : bB (.int a) (.int b) = if CMul a b then some (.int (a * b)) else none := rfl
theorem mul_left {a b : Int} (h1 : -(2 ^ 64) < a) (h2 : a < 2 ^ 64) : bB (.int a) (.int b) = some (.int (a * b)) := by rw [mul_int, if_pos (.inl ⟨h1, h2⟩)]
theorem mul_right {a b : Int} (h1 : -(2 ^ 64) < b) (h2 : b < 2 ^ 64) : bB (.int a) (.int b) = some (.int (a * b)) := by rw [mul_int, if_pos (.inr ⟨h1, h2⟩)]
theorem mod_int {a b : Int} (h : 0 < b) : bU (.int a) (.int b) = some (.int (a % b)) := by
 show (if 0 < b then some (D.int (a % b)) else none) = _
 rw [if_pos h]
theorem iJ {a b : Int} (h : 0 < b) (h2 : b < 1073741824) : ei (.int a) (.int b) = some (.int (a / b)) := by
 show (if CDiv a b then some (D.int (a / b)) else none) = _
 rw [if_pos ⟨h, h2⟩]
@[simp] theorem iI (p : Int → Int → Bool) (a b : Int) : fm p (.int a) (.int b) = some (.bl (p a b)) := rfl
@[simp] theorem qv (a b : List D) : hV (.lst a) (.lst b) = if a.length + b.length ≤ sizeLine then some (.lst (a ++ b)) else none := rfl
@[simp] theorem qU (neg : Bool) (x : D) : dIs neg x .non = some (.bl (if neg then !x.isNon else x.isNon)) := rfl
@[simp] theorem oS : D.isNon .non = true := rfl
@[simp] theorem o4 (i : Int) : D.isNon (.int i) = false := rfl
@[simp] theorem oY (i : List D) : D.isNon (.lst i) = false := rfl
@[simp] theorem ed (neg : Bool) (a b : Str) : aG neg (.str a) (.str b) = some (.bl (if neg then !decide (a = b) else decide (a = b))) := rfl
@[simp] theorem qR (neg : Bool) (a b : Int) : aG neg (.int a) (.int b) = some (.bl (if neg then !decide (a = b) else decide (a = b))) := by
 have h1 : (SeqAt.shaped (PyData.int a) && SeqAt.shaped (PyData.int b)) = true := by rfl
 show (if (SeqAt.shaped (PyData.int a) && SeqAt.shaped (PyData.int b)) = true then some (D.bl (if neg then !PyData.eqv (.int a) (.int b) else PyData.eqv (.int a) (.int b))) else none) = _
 rw [if_pos h1]
 have : PyData.eqv (.int a) (.int b) = decide (a = b) := by simp [PyData.eqv]; rfl
 rw [this]
@[simp] theorem qE (xs : List D) : aU [.lst xs] = some (.int xs.length) := rfl
@[simp] theorem qI (ks : List Key) (xs : List D) : aU [.dic ks xs] = some (.int ks.length) := rfl
@[simp] theorem qS (xs : List D) : aU [.scr xs] = some (.int xs.length) := rfl
@[simp] theorem qQ (xs : List D) : aU [.tup xs] = some (.int xs.length) := rfl
@[simp] theorem len_str (z : Str) : aU [.str z] = if z.length ≤ sizeLine then some (.int z.length) else none := rfl
@[simp] theorem int_int (i : Int) : bP [.int i] = some (.int i) := rfl
@[simp] theorem qM (i : Int) : pK [.int i] = some (.int (if i < 0 then -i else i)) := rfl
@[simp] theorem pz (xs : List D) : dList [.lst xs] = some (.lst xs) := rfl
@[simp] theorem ia (b : Bool) : gp (.bl b) = some b := rfl
@[simp] theorem pJ (xs : List D) : D.walk? (.lst xs) = some xs := rfl
@[simp] theorem walk_str (z : Str) : D.walk? (.str z) = some (signs z) := rfl
abbrev dN (ns : List Nat) : List D := ns.map fun n => .int (n : Nat)
theorem lG (ns : List Nat) : cQ (dN ns) = some (ns.map fun n => V.int ((n : Nat) : Int)) := by
 induction ns with
 | nil => rfl
 | cons n ns ih => simp [cQ, D.flat?, ih]
theorem oz (n : Nat) (ns : List Nat) : inV (V.int n) (ns.map fun n => V.int ((n : Nat) : Int)) = decide (n ∈ ns) := by
 induction ns with
 | nil => simp [inV]
 | cons m ns ih =>
  unfold inV at *
  simp only [List.map_cons, List.any_cons, ih]
  have : eqV (V.int m) (V.int n) = decide (m = n) := by
   show decide ((m : Int) = (n : Int)) = _
   by_cases h : m = n
   ·simp [h]
   ·have : ¬ (m : Int) = n := by omega
    simp [h, this]
  rw [this]
  by_cases h : m = n
  ·simp [h]
  ·simp [h, Ne.symm h]
@[simp] theorem sy (neg : Bool) (n : Nat) (ns : List Nat) : dIn neg (.int n) (.lst (dN ns)) = some (.bl (if neg then !decide (n ∈ ns) else decide (n ∈ ns))) := by
 have := oz n ns
 simp only [dIn, D.items?, Option.bind_some, lG, D.flat?, Option.map_some, this]
@[simp] theorem iG (neg : Bool) (c : Nat) (z : Str) : dIn neg (.str ⟨#[c]⟩) (.str z) = some (.bl (if neg then !decide (c ∈ z.cps.toList) else decide (c ∈ z.cps.toList))) := rfl
theorem eK {z : Str} {n : Nat} (hz : z.length ≤ sizeLine) (h : n < z.cps.toList.length) : dIx (.str z) (.int n) = some (.str ⟨#[z.cps.toList[n]]⟩) := by
 rw [ix_str, if_pos hz, fk, List.getElem?_eq_getElem h]; rfl
@[simp] theorem qT {p : Prop} [Decidable p] (a b : Bool) (e : En) : (if p then some (a, e) else some (b, e)) = some (if p then a else b, e) := by split <;> rfl
theorem di (z : Str) : z.cps.toList.length = z.length := by simp [Str.length]
@[simp] theorem oV (z : Str) : (signs z).length = z.length := by unfold signs; rw [List.length_map, di]
theorem kc : -((2 : Int) ^ 62) ≤ 0 := by decide
theorem jU : (10001 : Int) ≤ 2 ^ 62 := by decide
theorem nv (c : Int → Prop) [inst : ∀ j, Decidable (c j)] (n : Int) (h : c n) (e : En) : ((some ([D.int n], e)).bind fun p => match p.1 with
 | [.int j] => if c j then some (bW 0 j.toNat, p.2) else none
 | _ => none) = some (bW 0 n.toNat, e) := by simp [h]
theorem nk (c : Int → Int → Prop) [inst : ∀ i j, Decidable (c i j)] (k n : Int) (h : c k n) (e : En) : ((some ([D.int k, D.int n], e)).bind fun p => match p.1 with
 | [.int i, .int j] => if c i j then some (bW i (j - i).toNat, p.2) else none
 | _ => none) = some (bW k (n - k).toNat, e) := by simp [h]
theorem hG {a : En → Option (List D × En)} {env e : En} {n : Nat} (h : a env = some ([.int (n : Int)], e)) (hn : n ≤ 10000) : iR1 a env = some (bW 0 n, e) := by
 have h1 : -((2 : Int) ^ 62) ≤ n := Int.le_trans kc (Int.natCast_nonneg n)
 have h2 : (n : Int) < 2 ^ 62 := Int.lt_of_lt_of_le (show (n : Int) < 10001 by omega) jU
 unfold iR1; rw [h]
 have := nv (fun j => -((2 : Int) ^ 62) ≤ j ∧ j < 2 ^ 62) n ⟨h1, h2⟩ e
 rw [Int.toNat_natCast] at this
 exact this
theorem mQ {a : En → Option (List D × En)} {env e : En} {k n : Nat} (h : a env = some ([.int (k : Int), .int (n : Int)], e)) (hk : k ≤ 10000) (hn : n ≤ 10000) : iR2 a env = some (bW k (n - k), e) := by
 have h1 : -((2 : Int) ^ 62) ≤ n := Int.le_trans kc (Int.natCast_nonneg n)
 have h2 : (n : Int) < 2 ^ 62 := Int.lt_of_lt_of_le (show (n : Int) < 10001 by omega) jU
 have h3 : -((2 : Int) ^ 62) ≤ k := Int.le_trans kc (Int.natCast_nonneg k)
 have h4 : (k : Int) < 2 ^ 62 := Int.lt_of_lt_of_le (show (k : Int) < 10001 by omega) jU
 have h5 : ((n : Int) - k).toNat = n - k := by omega
 unfold iR2; rw [h]
 have := nk (fun i j => -((2 : Int) ^ 62) ≤ i ∧ i < 2 ^ 62 ∧ -((2 : Int) ^ 62) ≤ j ∧ j < 2 ^ 62) k n ⟨h3, h4, h1, h2⟩ e
 rw [h5] at this
 exact this
theorem inv (P : Nat → En → Prop) : ∃ P', P' = P := ⟨P, rfl⟩
theorem szS {n : Nat} (h : n ≤ 10000) : n ≤ sizeLine := Nat.le_trans h jV
theorem szL {n : Nat} (h : n < 10000) : n < sizeLine := Nat.lt_of_lt_of_le h jV
theorem mV {p : Prop} [Decidable p] (h : p) : decide p = true := decide_eq_true h
theorem nB {p : Prop} [Decidable p] (h : ¬p) : decide p = false := decide_eq_false h
@[simp] theorem rK (env : En) (n : Nat) (d : D) : (Ag.imm d).slot env n = some (.imm d) := rfl
@[simp] theorem oX (env : En) (n : Nat) : aS env n [] = some [] := rfl
@[simp] theorem nV (env : En) (n : Nat) (a : Ag) (as : List Ag) : aS env n (a :: as) = (a.slot env n).bind fun s => (aS env (n + (if a.ioOf.isSome then 1 else 0)) as).map fun r => s :: r := rfl
@[simp] theorem rM (env : En) (n i : Nat) : (Ag.bor i).slot env n = (match env[i]? with
  | some (.imm d) => some (.imm d)
  | some s => s.rd.map .bor
  | none => none) := rfl
@[simp] theorem sv (env : En) (n i : Nat) : (Ag.io i).slot env n = (env[i]?.bind Sl.own?).map fun d => .io n d := rfl
@[simp] theorem rG (d : D) : (Ag.imm d).ioOf = none := rfl
@[simp] theorem rN (i : Nat) : (Ag.bor i).ioOf = none := rfl
@[simp] theorem rQ (i : Nat) : (Ag.io i).ioOf = some i := rfl
end Q
namespace Q
open PySem L2
def cq (e : En) : List Nat → Nat → Option (List D)
 | [], _ => some []
 | j :: js, n => match e[j]? with
  | some (.io n' d) => if n' = n then (cq e js (n + 1)).map fun ds => d :: ds else none
  | _ => none
def putAll : List Nat → List D → En → En
 | i :: is, d :: ds, env => putAll is ds (aI env i d)
 | _, _, env => env
def dW (N : List Str) (mf : MS) (ss : List Sl) (js : List Nat) : Option (Md × D × List D) := (mf (ss ++ List.replicate (N.length - ss.length) .un)).bind fun fl => match fl with
 | .nx e => (cq e js 0).map fun ds => (.imm, .non, ds)
 | .ret md d e => (cq e js 0).map fun ds => (md, d, ds)
 | _ => none
def res (N : List Str) (mf : MS) (ss : List Sl) (js : List Nat) : Option (D × List D) := (dW N mf ss js).map fun r => r.2
def jd (N : List Str) (mf : MS) (ss : List Sl) (js : List Nat) : Option (D × List D) := (dW N mf ss js).bind fun r => match r.1 with
 | .new => some r.2
 | .imm => none
theorem eH (cenv : En) : ∀ (is js : List Nat) (n : Nat) (env : En), is.length = js.length → bJ cenv n is js env = (cq cenv js n).map fun ds => putAll is ds env
 | [], [], n, env, _ => rfl
 | i :: is, [], n, env, h => by cases h
 | [], j :: js, n, env, h => by cases h
 | i :: is, j :: js, n, env, h => by
  unfold bJ cq
  cases hj : cenv[j]? with
  | none => rfl
  | some s =>
   cases s with
   | io n' d =>
    by_cases hn : n' = n
    ·simp only [hn, if_true]
     rw [eH cenv is js (n + 1) _ (by simpa using h)]
     cases cq cenv js (n + 1) <;> rfl
    ·simp only [hn, if_false]; rfl
   | _ => rfl
theorem gr : ∀ (as : List Ag) (n : Nat), (ay as).length = (ax n as).length
 | [], n => rfl
 | a :: as, n => by
  have := gr as (n + 1)
  unfold ax
  cases a with
  | imm d => exact this
  | bor i => exact this
  | io i => show (ay as).length + 1 = (ax (n + 1) as).length + 1; rw [this]
theorem gA (N : List Str) (mf : MS) (a : MG) (env : En) : cG N mf a env = (a env).bind fun p => if apart p.1 = true then (aS p.2 0 p.1).bind fun ss => (dW N mf ss (ax 0 p.1)).map fun r => (r.1, r.2.1, putAll (ay p.1) r.2.2 p.2) else none := by
 unfold cG dW
 cases ha : a env with
 | none => rfl
 | some p =>
  simp only [Option.bind_some]
  by_cases h : apart p.1 = true
  ·rw [if_pos h, if_pos h]
   cases hs : aS p.2 0 p.1 with
   | none => rfl
   | some ss =>
    simp only [Option.bind_some]
    cases hf : mf (ss ++ List.replicate (N.length - ss.length) .un) with
    | none => rfl
    | some fl =>
     cases fl with
     | nx e => simp only [Option.bind_some]; rw [eH _ _ _ _ _ (gr _ _)]; cases cq e (ax 0 p.1) 0 <;> rfl
     | ret md d e => simp only [Option.bind_some]; rw [eH _ _ _ _ _ (gr _ _)]; cases cq e (ax 0 p.1) 0 <;> rfl
     | bk e => rfl
     | ct e => rfl
  ·rw [if_neg h, if_neg h]
theorem dA (N : List Str) (np : Nat) (mf : MS) (a : MG) (env : En) : aj N np mf a env = (a env).bind fun p => if p.1.length = np ∧ apart p.1 = true then (aS p.2 0 p.1).bind fun ss => (res N mf ss (ax 0 p.1)).map fun r => (r.1, putAll (ay p.1) r.2 p.2) else none := by
 unfold aj
 rw [gA]
 unfold res
 cases ha : a env with
 | none => simp
 | some p =>
  simp only [Option.bind_some, Option.map_some, Option.some.injEq]
  by_cases h1 : p.1.length = np
  ·by_cases h2 : apart p.1 = true
   ·simp only [h1, h2, if_true, and_self]
    cases hs : aS p.2 0 p.1 with
    | none => rfl
    | some ss => simp only [Option.bind_some]; cases dW N mf ss (ax 0 p.1) <;> rfl
   ·simp [h1, h2]
  ·simp [h1]
theorem pl (N : List Str) (np : Nat) (mf : MS) (a : MG) (env : En) : cw N np mf a env = (a env).bind fun p => if p.1.length = np ∧ apart p.1 = true then (aS p.2 0 p.1).bind fun ss => (jd N mf ss (ax 0 p.1)).map fun r => (r.1, putAll (ay p.1) r.2 p.2) else none := by
 unfold cw
 rw [gA]
 unfold jd
 cases ha : a env with
 | none => simp
 | some p =>
  simp only [Option.bind_some, Option.map_some, Option.some.injEq]
  by_cases h1 : p.1.length = np
  ·by_cases h2 : apart p.1 = true
   ·simp only [h1, h2, if_true, and_self]
    cases hs : aS p.2 0 p.1 with
    | none => rfl
    | some ss =>
     simp only [Option.bind_some]
     cases dW N mf ss (ax 0 p.1) with
     | none => rfl
     | some r => obtain ⟨md, d, ds⟩ := r; cases md <;> rfl
   ·simp [h1, h2]
  ·simp [h1]
def RtA (js : List Nat) (R : Md → D → List D → Prop) : Fl → Prop
 | .nx e => Gt (cq e js 0) fun ds => R .imm .non ds
 | .ret md d e => Gt (cq e js 0) fun ds => R md d ds
 | _ => False
@[simp] theorem rp (js : List Nat) (R : Md → D → List D → Prop) (e : En) : RtA js R (.nx e) ↔ Gt (cq e js 0) fun ds => R .imm .non ds := Iff.rfl
@[simp] theorem ff (js : List Nat) (R : Md → D → List D → Prop) (md : Md) (d : D) (e : En) : RtA js R (.ret md d e) ↔ Gt (cq e js 0) fun ds => R md d ds := Iff.rfl
@[simp] theorem ew (e : En) (n : Nat) : cq e [] n = some [] := rfl
@[simp] theorem o6 (e : En) (j n : Nat) (js : List Nat) : cq e (j :: js) n = (e[j]?).bind fun s => match s with
  | .io n' d => if n' = n then (cq e js (n + 1)).map fun ds => d :: ds else none
  | _ => none := by
 rw [cq]
 cases e[j]? with
 | none => rfl
 | some s => cases s <;> rfl
theorem iX {N : List Str} {mf : MS} {ss : List Sl} {js : List Nat} {R : Md → D → List D → Prop} (h : W mf (ss ++ List.replicate (N.length - ss.length) .un) (RtA js R)) : ∃ md d ds, R md d ds ∧ dW N mf ss js = some (md, d, ds) := by
 obtain ⟨fl, h1, h2⟩ := h
 unfold dW
 rw [h1]
 cases fl with
 | nx e => obtain ⟨ds, q, r⟩ := h2; exact ⟨_, _, ds, r, by simp only [Option.bind_some]; rw [q]; rfl⟩
 | ret md d e => obtain ⟨ds, q, r⟩ := h2; exact ⟨_, _, ds, r, by simp only [Option.bind_some]; rw [q]; rfl⟩
 | bk e => exact h2.elim
 | ct e => exact h2.elim
theorem ik {N : List Str} {mf : MS} {ss : List Sl} {js : List Nat} {R : D → List D → Prop} (h : W mf (ss ++ List.replicate (N.length - ss.length) .un) (RtA js fun _ d ds => R d ds)) : ∃ d ds, R d ds ∧ res N mf ss js = some (d, ds) := by
 obtain ⟨md, d, ds, r, q⟩ := iX h
 exact ⟨d, ds, r, by unfold res; rw [q]; rfl⟩
theorem bR {N : List Str} {mf : MS} {ss : List Sl} {js : List Nat} {x : D} {xs : List D} (h : W mf (ss ++ List.replicate (N.length - ss.length) .un) (RtA js fun _ d ds => d = x ∧ ds = xs)) : res N mf ss js = some (x, xs) := by
 obtain ⟨d, ds, ⟨rfl, rfl⟩, q⟩ := ik h
 exact q
@[simp] theorem oU : apart [] = true := rfl
@[simp] theorem qO : ay [] = [] := rfl
@[simp] theorem qo (d : D) (as : List Ag) : ay (.imm d :: as) = ay as := rfl
@[simp] theorem lX (i : Nat) (as : List Ag) : ay (.bor i :: as) = ay as := rfl
@[simp] theorem mG (i : Nat) (as : List Ag) : ay (.io i :: as) = i :: ay as := rfl
@[simp] theorem pG : bN [] = [] := rfl
@[simp] theorem qm (d : D) (as : List Ag) : bN (.imm d :: as) = bN as := rfl
@[simp] theorem jP (i : Nat) (as : List Ag) : bN (.bor i :: as) = i :: bN as := rfl
@[simp] theorem lu (i : Nat) (as : List Ag) : bN (.io i :: as) = bN as := rfl
@[simp] theorem qP (n : Nat) : ax n [] = [] := rfl
@[simp] theorem qr (n : Nat) (d : D) (as : List Ag) : ax n (.imm d :: as) = ax (n + 1) as := rfl
@[simp] theorem qG (n i : Nat) (as : List Ag) : ax n (.bor i :: as) = ax (n + 1) as := rfl
@[simp] theorem ri (n i : Nat) (as : List Ag) : ax n (.io i :: as) = n :: ax (n + 1) as := rfl
@[simp] theorem oZ (d : D) (as : List Ag) : apart (.imm d :: as) = apart as := rfl
@[simp] theorem o5 (i : Nat) (as : List Ag) : apart (.bor i :: as) = (decide (i ∉ ay as) && apart as) := by
 unfold apart
 rw [Bool.eq_iff_iff]
 simp only [lX, jP, List.all_cons, Bool.and_eq_true]
 constructor
 ·rintro ⟨h1, h2, h3⟩; exact ⟨h2, h1, h3⟩
 ·rintro ⟨h2, h1, h3⟩; exact ⟨h1, h2, h3⟩
@[simp] theorem pC (i : Nat) (as : List Ag) : apart (.io i :: as) = (decide (i ∉ ay as) && (decide (i ∉ bN as) && apart as)) := by
 unfold apart
 simp only [mG, lu]
 rw [Bool.eq_iff_iff]
 simp only [Bool.and_eq_true, decide_eq_true_eq, List.nodup_cons, List.all_eq_true, List.mem_cons, not_or]
 constructor
 ·rintro ⟨⟨h1, h2⟩, h3⟩
  exact ⟨h1, fun z => (h3 i z).1 rfl, h2, fun k hk => (h3 k hk).2⟩
 ·rintro ⟨h1, h2, h3, h4⟩
  exact ⟨⟨h1, h3⟩, fun k hk => ⟨fun z => h2 (z ▸ hk), h4 k hk⟩⟩
@[simp] theorem oH (env : En) (ds : List D) : putAll [] ds env = env := by cases ds <;> rfl
@[simp] theorem nG (i : Nat) (is : List Nat) (d : D) (ds : List D) (env : En) : putAll (i :: is) (d :: ds) env = putAll is ds (aI env i d) := rfl
@[simp] theorem rF (a : ME) (env : En) : pV a env = (a env).bind fun p => match p.1 with
 | .int i => some (.int (-i), p.2)
 | _ => none := rfl
theorem iV {α : Type} {o : Option α} {f : α → Option Fl} {Q : Fl → Prop} : (∃ fl, o.bind f = some fl ∧ Q fl) ↔ Gt o fun a => ∃ fl, f a = some fl ∧ Q fl := by
 cases o <;> simp [Gt]
theorem jk {c : Prop} [Decidable c] {x : Fl} {Q : Fl → Prop} : (∃ fl, (if c then some x else none) = some fl ∧ Q fl) ↔ c ∧ Q x := by
 by_cases h : c <;> simp [h]
@[simp] theorem qY {i : Nat} {x y : ME} {env : En} {Q : Fl → Prop} : W (kz i x y) env Q ↔ Gt (x env) fun p => Gt (g9 p.2 i) fun _ => Gt (y p.2) fun q => Gt (g9 q.2 i) fun kx => Gt (q.1.key?) fun k => kx.2.length < sizeLine ∧ Q (.nx (aI q.2 i (.dic (ku k kx.1) (ky k p.1 kx.1 kx.2)))) := by
 simp only [W, kz, iV, jk]
@[simp] theorem rr {i : Nat} {x y : ME} {env : En} {Q : Fl → Prop} : W (kL i x y) env Q ↔ Gt (x env) fun p => Gt (ic p.2 i) fun _ => Gt (y p.2) fun q => Gt (ic q.2 i) fun kx => Gt (kH q.1) fun k => kx.2.length < sizeLine ∧ Q (.nx (aI q.2 i (.dcn (putN k kx.1) (mI k p.1 kx.1 kx.2)))) := by
 simp only [W, kL, iV, jk]
@[simp] theorem qA (env : En) (i : Nat) : g9 env i = (env[i]?).bind fun s => (s.own?).bind fun d => match d with
 | .dic ks xs => some (ks, xs)
 | _ => none := rfl
@[simp] theorem qN (env : En) (i : Nat) : ic env i = (env[i]?).bind fun s => (s.own?).bind fun d => match d with
 | .dcn ks xs => some (ks, xs)
 | _ => none := rfl
@[simp] theorem qw (i : Int) : D.key? (.int i) = some (.inl i) := rfl
theorem ly {x : D} {p : PyData} (h : toP x = some p) (h2 : er p = true) : fc [x] = some (.str p.shown) := by
 unfold fc
 simp only [h, Option.bind_some, h2, if_true]
end Q
namespace Q
open PySem L2
theorem kn {stop : Bool} {vs : List Nat} {mi : MI} {gf : D → En → Option En} {mt : MT} {me : ME} {env e0 : En} {ds : List D} (hi : mi env = some (ds, e0)) (hc : fB e0 vs = true) (p : Nat → Bool) (E : En → Prop) (hE : E e0)
  (hs : ∀ i d e, ds[i]? = some d → E e → ∃ e1 b e2, gf d (bV e vs) = some e1 ∧ mt e1 = some (b, e2) ∧ (b = true → ∃ e3, me e2 = some (.bl (p i), e3) ∧ E e3) ∧ (b = false → E e2 ∧ p i = !stop)) :
  ∃ e2, mGx stop vs mi gf mt me env = some (.bl (if ∃ i, i < ds.length ∧ p i = stop then stop else !stop), cZ e0 (bV e2 vs) vs) ∧ E e2 := by
 have key : ∀ (ds : List D) (p : Nat → Bool) (e : En), E e → (∀ i d e, ds[i]? = some d → E e → ∃ e1 b e2, gf d (bV e vs) = some e1 ∧ mt e1 = some (b, e2) ∧ (b = true → ∃ e3, me e2 = some (.bl (p i), e3) ∧ E e3) ∧ (b = false → E e2 ∧ p i = !stop)) →
   ∃ e2, b8 stop gf mt me vs ds e = some (if ∃ i, i < ds.length ∧ p i = stop then stop else !stop, e2) ∧ E e2 := by
  intro ds
  induction ds with
  | nil => intro p e hE _; exact ⟨e, by simp [b8], hE⟩
  | cons d ds ih =>
   intro p e hE hs
   obtain ⟨e1, b, e2, h1, h2, h3, h4⟩ := hs 0 d e rfl hE
   have step : ∀ e', E e' → p 0 ≠ stop → ∃ e2, b8 stop gf mt me vs ds e' = some (if ∃ i, i < (d :: ds).length ∧ p i = stop then stop else !stop, e2) ∧ E e2 := fun e' hE' hp => by
    obtain ⟨e4, q1, q2⟩ := ih (fun i => p (i + 1)) e' hE' fun i d' e'' hd he => hs (i + 1) d' e'' (by simpa using hd) he
    refine ⟨e4, ?_, q2⟩
    rw [q1]
    have : (∃ i, i < ds.length ∧ p (i + 1) = stop) ↔ ∃ i, i < (d :: ds).length ∧ p i = stop := by
     constructor
     ·rintro ⟨i, a, b⟩; exact ⟨i + 1, by simpa using a, b⟩
     ·rintro ⟨i, a, b⟩
      cases i with
      | zero => exact absurd b hp
      | succ i => exact ⟨i, by simpa using a, b⟩
    simp only [this]
   cases b with
   | true =>
    obtain ⟨e3, h5, h6⟩ := h3 rfl
    by_cases hp : p 0 = stop
    ·refine ⟨e3, ?_, h6⟩
     simp only [b8, h1, h2, h5, Option.bind_some, if_true, hp]
     rw [if_pos ⟨0, by simp, hp⟩]
    ·obtain ⟨e4, q1, q2⟩ := step e3 h6 hp
     exact ⟨e4, by simp only [b8, h1, h2, h5, Option.bind_some, if_true]; rw [if_neg hp, q1], q2⟩
   | false =>
    obtain ⟨h5, h6⟩ := h4 rfl
    obtain ⟨e4, q1, q2⟩ := step e2 h5 (by rw [h6]; cases stop <;> simp)
    exact ⟨e4, by simp only [b8, h1, h2, Option.bind_some, Bool.false_eq_true, if_false]; rw [q1], q2⟩
 obtain ⟨e2, h1, h2⟩ := key ds p e0 hE hs
 exact ⟨e2, by simp only [mGx, hi, Option.bind_some, hc, if_true, h1, Option.map_some], h2⟩
@[simp] theorem qX (n : Nat) (r : List D → En → Option En) (xs : List D) (env : En) : gT n r (.tup xs) env = if xs.length = n then r xs env else none := rfl
@[simp] theorem rC (env : En) : nI [] env = some env := rfl
@[simp] theorem qz (f : D → En → Option En) (r : List D → En → Option En) (d : D) (ds : List D) (env : En) : l9 f r (d :: ds) env = (f d env).bind fun e => r ds e := rfl
@[simp] theorem qx (a : En → Option (List D × En)) (env : En) : o9 a env = (a env).bind fun p => match p.1 with
 | [.str z] => some (i5 0 (signs z), p.2)
 | _ => none := rfl
@[simp] theorem qy (a : ME) (b : ML) (env : En) : oo a b env = (a env).bind fun p => (b p.2).bind fun q => match p.1 with
 | .str x => (q.1.get q.2).bind fun d => (kF x d).map fun z => (z, q.2)
 | _ => none := rfl
@[simp] theorem pY (f f' : D → D → Option D) (a b c : ML) (env : En) : cK f f' a b c env = (a env).bind fun p => (b p.2).bind fun q => (p.1.get q.2).bind fun x => (q.1.get q.2).bind fun y => (f x y).bind fun z => match z with
 | .bl true => (c q.2).bind fun r => (q.1.get r.2).bind fun y => (r.1.get r.2).bind fun w => (f' y w).map fun z => (z, r.2)
 | .bl false => some (.bl false, q.2)
 | _ => none := rfl
@[simp] theorem qV (neg a b : Bool) : pA neg (.bl a) (.bl b) = some (.bl (xor neg (a == b))) := rfl
end Q
namespace Q
open PySem L2
def i8 (c : String) (f : Str) (v : D) : D → Option D
 | .obj c' ks xs => if c' = c ∧ ks.length < 1000 ∧ xs.length < 1000 then some (.obj c (gO f ks) (gS f v ks xs)) else none
 | _ => none
section
variable {env e : En} {Q : Fl → Prop} {i : Nat} {x : ME} {c : String} {f : Str}
@[simp] theorem qW : W (kX c f i x) env Q ↔ Gt (x env) fun p => Gt (p.2[i]?.bind Sl.own?) fun d => Gt (i8 c f p.1 d) fun z => Q (.nx (aI p.2 i z)) := by
 simp only [Gt]
 unfold W kX i8
 cases h1 : x env with
 | none => simp
 | some p =>
  cases h2 : p.2[i]?.bind Sl.own? with
  | none => simp [h2]
  | some d =>
   cases d with
   | obj c' ks xs => by_cases hl : c' = c ∧ ks.length < 1000 ∧ xs.length < 1000 <;> simp [hl, h2]
   | _ => simp [h2]
def mP (c : String) (f : Str) (j : Int) (d : D) : Option D := (gZ c f d).bind fun v => match v with
 | .int v => i8 c f (.int (v + j)) d
 | _ => none
@[simp] theorem rD {j : Int} : W (kW c f i j) env Q ↔ Gt (env[i]?.bind Sl.own?) fun d => Gt (mP c f j d) fun z => Q (.nx (aI env i z)) := by
 simp only [Gt]
 unfold W kW mP i8
 cases h2 : env[i]?.bind Sl.own? with
 | none => simp
 | some d =>
  cases h3 : gZ c f d with
  | none => simp [h3]
  | some v =>
   cases v with
   | int v =>
    cases d with
    | obj c' ks xs =>
     by_cases hl : c' = c ∧ ks.length < 1000 ∧ xs.length < 1000
     ·obtain ⟨rfl, a, b⟩ := hl
      simp [h3, a, b]
     ·simp [hl, h3]
    | _ => simp [h3]
   | _ => simp [h3]
@[simp] theorem rk {gf : D → En → Option En} : W (kA gf x) env Q ↔ Gt (x env) fun p => Gt (gf p.1 p.2) fun e => Q (.nx e) := by
 unfold W kA Gt
 constructor
 ·rintro ⟨fl, h, q⟩
  obtain ⟨p, h1, h2⟩ := Option.bind_eq_some_iff.mp h
  obtain ⟨e, h3, rfl⟩ := Option.map_eq_some_iff.mp h2
  exact ⟨p, h1, e, h3, q⟩
 ·rintro ⟨p, h1, e, h3, q⟩
  exact ⟨.nx e, by rw [h1]; simp [h3], q⟩
@[simp] theorem rh : W (kU x) env Q ↔ Gt (x env) fun p => Q (.nx p.2) := by
 rw [d8]
 unfold W kU
 cases h : x env <;> simp
end
@[simp] theorem oW (c : String) (m : Str) (i : Nat) (r : MG) (env : En) : lT c m i r env = (env[i]?.bind Sl.own?).bind fun d => if isObj c m d = true then (r env).map fun q => (.io i :: q.1, q.2) else none := rfl
@[simp] theorem qn (c : String) (m : Str) (a : ME) (r : MG) (env : En) : oD c m a r env = (a env).bind fun p => if isObj c m p.1 = true then (r p.2).map fun q => (.imm p.1 :: q.1, q.2) else none := rfl
@[simp] theorem qF (neg a b : Bool) : aG neg (.bl a) (.bl b) = some (.bl (if neg then !decide (a = b) else decide (a = b))) := by cases neg <;> cases a <;> cases b <;> rfl
end Q
namespace Q
open PySem PySem.Spec PyProof.Rows L2 CwR
theorem kP {α : Type} {M : Model} {A : Around} {t : Sem α} {Q : α → Shared → Prop} {E : Value → Shared → Prop} {s : Shared} (h0 : 1 ≤ s.toks) (h : wpAny M A t Q E s) : wpAny M A t (fun a z => 1 ≤ z.toks ∧ Q a z) E s :=
 wpAny_mono (PySem.wpAny_toks h) (fun _ _ q => ⟨Nat.le_trans h0 q.1, q.2⟩) fun _ _ z => z.2
section
variable {Z : Zc}
def SVT (Z : Zc) (st : Stmt) (m : MS) : Prop := ∃ t, (∀ X, InF Z X → PST X st t) ∧ SS Z t m
def BVT (Z : Zc) (sts : List Stmt) (m : MS) : Prop := ∃ t, (∀ X, InF Z X → PSsT X sts t) ∧ SS Z t m
def PSK (X : Cx) (st : Stmt) (t : TS) : Prop := ∀ (pins : List (Addr × Obj)) (s : Shared) (σ : L2.St) (H : Hp) (D : Ends), Inv X pins σ H s → t D σ H → wpAny (model X.prog X.w) X.A (exec st X.env) (fun f z => 1 ≤ z.toks ∧ SP X pins D f z) X.xe s
def SVK (Z : Zc) (st : Stmt) (m : MS) : Prop := ∃ t, (∀ X, InF Z X → PSK X st t) ∧ SS Z t m
theorem nC {st : Stmt} {m : MS} (h : SV Z st m) : SVT Z st m := let ⟨t, h1, h2⟩ := h; ⟨t, fun X i => PST.of (h1 X i), h2⟩
theorem fZ {t u : TS} {a b : MS} (h2 : SS Z t a) (r2 : SS Z u b) : SS Z (tSeq t u) (av a b) := by
 intro g env σ I H D fl R hm k
 unfold av at hm
 cases e1 : a env with
 | none => rw [e1] at hm; cases hm
 | some f1 =>
  rw [e1] at hm
  simp only [Option.bind_some] at hm
  refine h2 g env σ I H _ f1 R e1 ?_
  cases f1 with
  | nx e => exact fun σ' I' H' R' s' => r2 g e σ' I' H' D fl R' hm (k.mono s')
  | bk e => cases hm; exact k
  | ct e => cases hm; exact k
  | ret md d e => cases hm; exact k
theorem jZ {s : Stmt} {r : List Stmt} {a b : MS} (ha : SVT Z s a) (hb : BVT Z r b) : BVT Z (s :: r) (av a b) := by
 obtain ⟨t, h1, h2⟩ := ha
 obtain ⟨u, r1, r2⟩ := hb
 exact ⟨_, fun X i => psst_cons (h1 X i) (r1 X i), fZ h2 r2⟩
theorem j7 {s : Stmt} {r : List Stmt} {a b : MS} (ha : SVK Z s a) (hb : BVT Z r b) : BV Z (s :: r) (av a b) := by
 obtain ⟨t, h1, h2⟩ := ha
 obtain ⟨u, r1, r2⟩ := hb
 refine ⟨_, fun X i => ⟨fun pins s σ H D I h => ?_⟩, fZ h2 r2⟩
 refine wpAny_execs_cons (wpAny_mono (h1 X i pins s σ H { D with nx := u D } I h) (fun f z q => ?_) fun _ _ x => x)
 obtain ⟨hk, q⟩ := q
 cases f with
 | next => obtain ⟨σ', H', I', q⟩ := q; exact r1 X i pins z σ' H' D hk I' q
 | ret v => exact q
 | brk => exact q
 | cont => exact q
structure fu (P : Program) (w : World) (K : PySem.W.Frag) (mg : Str → Option Value) (base : Heap) (CX : CXT) (k : Nat) (f : Addr) (fd : FuncData) (ps : List Str) (sp : Sp) : Prop where
 ar : ∀ {vs H Q E}, sp vs H Q E → vs.length = ps.length
 go : ∀ {A : Around} {outer : List Env} {s : Shared} {H : Hp} {args : Args} {us : List Value} {vs : List V} {Q : VK} {E : XK}, 1 ≤ s.toks → Room k A → bD A →
  Env0 P w K mg base A outer s H → BindsTo s fd args (ps.zip us) → Vals vs us → sp vs H Q E → codeAny (model P w) A (.call (.ref f) args) (CR CX outer P w H s Q E) s
theorem fu.runs {X : Cx} {CX : CXT} {k : Nat} {f : Addr} {fd : FuncData} {ps : List Str} {sp : Sp} {E : XK} {pins : List (Addr × Obj)} {σ : L2.St} {H : Hp} {s : Shared} {Q : VK} {us : List Value} {vs : List V} (F : fu X.prog X.w X.K X.mg X.base CX k f fd ps sp) (h0 : 1 ≤ s.toks) (hr : Room k X.A) (g : bD X.A) (hb : Binds X.K fd ps []) (hx : Passes CX X E) (I : Inv X pins σ H s) (r : Vals vs us)
  (h : sp vs H Q E) : wpAny (model X.prog X.w) X.A (call (.ref f) us) (EP X pins σ Q) X.xe s :=
 wpAny_call (codeAny_mono (F.go h0 hr g I.env0 (binds0 hb I (r.length.symm.trans (F.ar h))) r h) fun a b q => match a, q with
  | .error e, q => hx pins σ H s e b I q
  | .ok (.ret u), q => I.after q
  | .ok .next, q => q.elim
  | .ok .brk, q => q.elim
  | .ok .cont, q => q.elim)
structure pD (Z : Zc) (x : Str) (N : List Str) (np : Nat) (mf : MS) : Prop where
 ex : ∃ (f : Addr) (fd : FuncData) (ps : List Str), fu Z.P Z.w Z.K Z.mg Z.base CX0 Z.k f fd ps (spM Z.K Z.cl N np mf) ∧ Z.mg x = some (.ref f) ∧ PySem.W.keepIn Z.K (.ref f) = true ∧ Binds Z.K fd ps []
end
end Q
namespace Q
open PySem PySem.Spec PyProof.Rows L2 CwR
structure nu (c : Pc) (k : Nat) (x : Str) (N : List Str) (np : Nat) (mf : MS) : Prop where
 ex : ∃ (f : Addr) (fd : FuncData) (ps : List Str), fu c.P c.w c.K c.mg c.base CX0 k f fd ps (spM c.K c.cl N np mf) ∧ c.mg x = some (.ref f) ∧ PySem.W.keepIn c.K (.ref f) = true ∧ Binds c.K fd ps []
theorem fu.mono {P : Program} {w : World} {K : PySem.W.Frag} {mg : Str → Option Value} {base : Heap} {CX : CXT} {j k : Nat} {f : Addr} {fd : FuncData} {ps : List Str} {sp : Sp} (F : fu P w K mg base CX j f fd ps sp) (h : j ≤ k) : fu P w K mg base CX k f fd ps sp := ⟨F.ar, fun h0 hr => F.go h0 (hr.mono h)⟩
section
variable {c : Pc} {j k np : Nat} {x m : Str} {N M : List Str} {mf : MS} {sc s1 : Scope} {me : Option (Addr × Addr)}
theorem nu.z (F : nu c j x M np mf) (h : j ≤ k) : pD (c.z k N sc me) x M np mf := let ⟨f, fd, ps, h1, h2⟩ := F.ex; ⟨f, fd, ps, h1.mono h, h2⟩
end
end Q
namespace Q
open PySem PySem.Spec PyProof.Rows L2 CwR
def ExT (X : Cx) (x : Str) (s : Shared) : Prop := ∃ m z t, s.heap.Ns X.env.locals m ∧ m x = some (.str z t) ∧ 1 ≤ t ∧ t < s.toks
def pX (X : Cx) (x : Str) (sts : List Stmt) (t : TS) : Prop := ∀ (pins : List (Addr × Obj)) (s : Shared) (σ : L2.St) (H : Hp) (D : Ends), ExT X x s → Inv X pins σ H s → t D σ H → wpAny (model X.prog X.w) X.A (execs sts X.env) (SP X pins D) X.xe s
def BVE (Z : Zc) (x : Str) (sts : List Stmt) (m : MS) : Prop := ∃ t, (∀ X, InF Z X → pX X x sts t) ∧ SS Z t m
section
variable {Z : Zc} {X : Cx} {pins : List (Addr × Obj)} {σ : L2.St} {H : Hp} {s : Shared}
theorem gF {M : Model} {A : Around} {E : Value → Shared → Prop} {i : Nat} {y : Str} {v : V} {u : Value} {Q : Unit → Shared → Prop} {m : Str → Option Value} (I : Inv X pins σ H s) (hN : X.N.Nodup) (hi : X.N[i]? = some y) (hk : X.env.kindOf y = some .local) (r : RelV v u)
  (hn : s.heap.Ns X.env.locals m) (h : ∀ h', Inv X pins (σ.set i (some v)) H { s with heap := h', toks := s.toks + 1 } → h'.Ns X.env.locals (fun x => if x = y then some u else m x) → Q () { s with heap := h', toks := s.toks + 1 }) : wpAny M A (storeName X.env y u) Q E s := by
 obtain ⟨m0, hn0, hl⟩ := id I.loc
 have hm0 : m0 = m := funext fun n => Heap.Ns.agree hn0 hn n
 subst hm0
 have hcls : (X.env.scope.kind == .class || (X.env.scope.kind == .module && X.env.locals != X.env.globals)) = false := by rw [I.ok.kind]; rfl
 have hiσ : i < σ.length := by rw [I.len]; exact (List.getElem?_eq_some_iff.mp hi).1
 have cne := I.cne
 have tracked : ∀ {a : Addr} {h' : Heap}, (∃ o, s.heap.get? a = some o ∧ H a = none) → Heap.SameBut a s.heap h' → HOk X.prog X.w H h' := fun {a h'} ha hs b ob e => by
  obtain ⟨_, _, hfree⟩ := ha
  refine (I.hok b ob e).stay (fun c w' hc q => (hs.2 c ?_).trans q) (fun _ q => q) fun _ _ q => q
  rintro rfl
  rcases hc with rfl | hc
  ·rw [hfree] at e; cases e
  ·rw [hfree] at hc; cases hc
 refine wpAny_storeName_local hk hn (fun h' hn' hs => ?_) hcls
 obtain ⟨oL, _, _, hoL, _⟩ := id hn
 refine h h' ⟨I.ok, I.os, I.bare, ⟨fun b o e n hb hx => ?_, fun b o e n hb hx => ?_, I.base.free, fun b o e hx => ?_, I.base.tups, I.base.frzs, I.base.tbls⟩, ⟨_, hn', fun j y' v' e1 e2 e3 => ?_⟩, fun y c e => ?_, I.free, I.freeC, fun p hp => ?_, tracked ⟨oL, hoL, I.free⟩ hs, by simpa using I.len⟩ hn'
 ·exact (hs.2 b (Nat.ne_of_lt (Nat.lt_of_lt_of_le (Heap.lt_size e) I.ok.above))).trans (I.base.keep b o e n hb hx)
 ·obtain ⟨sl, e1⟩ := I.base.slot b o e n hb hx
  exact ⟨sl, (hs.2 b (Nat.ne_of_lt (Nat.lt_of_lt_of_le (Heap.lt_size e) I.ok.above))).trans e1⟩
 ·obtain ⟨o', e1⟩ := I.base.there b o e hx
  exact ⟨o', (hs.2 b (Nat.ne_of_lt (Nat.lt_of_lt_of_le (Heap.lt_size e) I.ok.above))).trans e1⟩
 ·by_cases hj : j = i
  ·subst hj
   rw [hi] at e1; cases e1
   rw [List.getElem?_set_self hiσ] at e2
   cases e2
   exact ⟨u, r, .inl ⟨hk, by simp⟩⟩
  ·rw [List.getElem?_set_ne (Ne.symm hj)] at e2
   obtain ⟨u', r', q⟩ := hl j y' v' e1 e2 e3
   refine ⟨u', r', ?_⟩
   rcases q with ⟨k, e⟩ | ⟨k, c, e, z⟩
   ·refine .inl ⟨k, ?_⟩
    have : y' ≠ y := fun e => hj (nodup_ix hN e1 (e ▸ hi))
    simp [this, e]
   ·exact .inr ⟨k, c, e, z.sameBut hs (cne y' c e)⟩
 ·obtain ⟨w', z⟩ := I.cell y c e
  exact ⟨w', z.sameBut hs (cne y c e)⟩
 ·obtain ⟨e, n, ne, nf, d⟩ := I.pin p hp
  exact ⟨(hs.2 p.1 ne).trans e, n, ne, nf, d⟩
theorem ExT.set {x y : Str} {h' : Heap} {u : Value} {m : Str → Option Value} {z : Str} {t k : Nat} {s' : Shared} (hx : m x = some (.str z t)) (h1 : 1 ≤ t) (h2 : t < s'.toks) (hne : x ≠ y) (hn : s'.heap.Ns X.env.locals (fun n => if n = y then some u else m n)) : ExT X x s' :=
 ⟨_, z, t, hn, by simp [hne, hx], h1, h2⟩
theorem ExT.tok {x : Str} {k : Nat} (h : ExT X x s) (hk : s.toks ≤ k) : ExT X x { s with toks := k } := by
 obtain ⟨m, z, t, h1, h2, h3, h4⟩ := h
 exact ⟨m, z, t, h1, h2, h3, Nat.lt_of_lt_of_le h4 hk⟩
theorem ie {i : Nat} {te : TE} {me : ME} (h : SE Z te me) : SS Z (tAsg te (gName i)) (aP i me) := by
 intro g env σ I H D fl R hm k
 unfold aP at hm
 cases e1 : me env with
 | none => rw [e1] at hm; cases hm
 | some r =>
  rw [e1] at hm
  simp only [Option.bind_some] at hm
  split at hm
  ·rename_i hi
   cases hm
   exact h g env σ I H _ r.1 r.2 R e1 fun v I1 H1 R1 s1 rv => k _ I1 H1 (R1.setImm (by rw [← R1.len]; exact hi) rv) s1
  ·cases hm
theorem pR {d : D} {v : V} (r : ∀ I, Rep Z.K Z.cl I d v) : SE Z (tC v) (mC d) := fun g env σ I H Q d' env' R hm k => by cases hm; exact k v I H R (Same.refl _) (r I)
theorem l5 {i j : Nat} {x c : Str} {cpos pos' pos : Pos} (hN : Z.N[i]? = some x) (hv : eO Z x) (hs : ∀ env, swapsWith (.Constant (.str c) j cpos) (some (.Name x pos')) pos.line env = pure false := by intro _; rfl) :
  SVK Z (.Assign [.Name x pos'] (.Constant (.str c) j cpos) pos) (aP i (mC (.str c))) := by
 refine ⟨tAsg (tC (.str c)) (gName i), fun X k pins s σ H D I h => ?_, ie (pR fun _ => .str)⟩
 refine wpAny_Assign_Name (Calls.Constant_str ?_) (hs _)
 refine wpAny_mono (PySem.wpAny_toks (store_ok (v := V.str c) (u := Value.str c s.toks) (Q := fun _ s2 => Inv X pins (σ.set i (some (V.str c))) H s2) (I.tok (s.toks + 1)) k.nd (by rw [k.N]; exact hN) (dU k hv).1 ⟨s.toks, rfl⟩ (fun _ I2 => I2) (dU k hv).2)) (fun _ s2 q => ?_) fun _ _ z => z.2
 have hk : s.toks + 1 ≤ s2.toks := q.1
 exact ⟨by omega, _, H, q.2, h⟩
def gm : D → D → Option D
 | .str z, .int i => if z.length ≤ sizeLine then (atI z.cps.toList i).map fun c => .str ⟨#[c]⟩ else none
 | _, _ => none
theorem mm : be Z rIxS gm := by
 intro I H x y z vx vy Q s rx ry h k
 unfold gm at h
 split at h
 ·rename_i a i
  split at h
  ·rename_i hz
   obtain ⟨c, hc, rfl⟩ := Option.map_eq_some_iff.mp h
   cases rx.str; cases ry.int
   exact ⟨a, i, c, rfl, rfl, hz, hc, k _ .str⟩
  ·cases h
 ·cases h
theorem l6 {i : Nat} {x : Str} {a b : Expr} {ma mb : ML} {rest : List Stmt} {m : MS} {p q pos : Pos} (hN : Z.N[i]? = some x) (hv : Z.sc.names.lookup x = some .local) (ha : LV Z a ma) (hb : LV Z b mb) (hr : BVE Z x rest m)
  (hs0 : PlainIx b := by exact fun _ _ => rfl) (hs : ∀ env, swapsWith (.Subscript a b q) (some (.Name x p)) pos.line env = pure false := by intro _; rfl) :
  BVT Z (.Assign [.Name x p] (.Subscript a b q) pos :: rest) (av (aP i (ae gm ma mb)) m) := by
 obtain ⟨ta, a1, a2⟩ := ha
 obtain ⟨tb, b1, b2⟩ := hb
 obtain ⟨u, r1, r2⟩ := hr
 refine ⟨tSeq (tAsg (tOp rIxS ta tb) (gName i)) u, fun X k pins s σ H D h0 I h => ?_, fZ (ie (eS mm a2 b2)) r2⟩
 have hkl : X.env.kindOf x = some .local := by show X.env.scope.names.lookup x = _; rw [k.sc]; exact hv
 refine wpAny_execs_cons (wpAny_Assign_Name (Subscript_ ?_) (hs _))
 refine wpAny_mono (kP h0 ((a1 X k).run pins s σ H _ I h)) (fun va s1 q1 => ?_) fun _ _ z => z
 obtain ⟨t1, x1, H1, I1, rx, q1⟩ := q1
 refine wpAny_mono (kP t1 ((b1 X k).run pins s1 σ H1 _ I1 q1)) (fun vb s2 q2 => ?_) fun _ _ z => z
 obtain ⟨t2, x2, H2, I2, ry, z, k2, c, e1, e2, hz, he, q⟩ := q2
 subst e1; subst e2
 obtain ⟨tk1, rfl⟩ := rx
 obtain ⟨tk2, rfl⟩ := ry
 obtain ⟨j, h1, h2, h3, h4, h5⟩ := atI_get he
 have hl : z.cps.toList.length = z.length := by simp [Str.length]
 rw [hl] at h1 h4 h5
 have hn := line63
 refine tail_any (typeIs_str s2 z tk1) slot_str_getitem.lookup (getItem_str (c := c) (by
  have e1 : decide (k2 < -(2 ^ 63 : Int)) = false := decide_eq_false (by omega)
  have e2 : decide (k2 ≥ 2 ^ 63) = false := decide_eq_false (by omega)
  rw [e1, e2, Bool.or_false]) (by rw [h1]; simpa using h2) ?_) (hs0 _ _)
 have I3 : Inv X pins σ H2 { s2 with toks := s2.toks + 1 } := I2.tok _
 obtain ⟨m0, hn0, _⟩ := id I3.loc
 refine gF (v := .str ⟨#[c]⟩) I3 k.nd (by rw [k.N]; exact hN) hkl ⟨_, rfl⟩ hn0 fun h' I4 hn4 => ?_
 exact r1 X k pins _ _ H2 D ⟨_, ⟨#[c]⟩, s2.toks, hn4, by simp, t2, by show s2.toks < s2.toks + 1 + 1; omega⟩ I4 q
theorem ka {i j n : Nat} {x y fx bx : Str} {N : List Str} {mf : MS} {kk : Int} {jj : Nat} {rest : List Stmt} {m : MS} {p pf pb cp q pos : Pos} (F : FnZ Z fx N n mf) (hg : GlZ Z fx) (hN : Z.N[i]? = some y) (hv : Z.sc.names.lookup y = some .local) (hb : Z.N[j]? = some bx) (hbv : Vis Z.sc bx) (hne : x ≠ y) (hr : BVE Z x rest m)
  (hdf : (fx == ("__debug__" : Str)) = false := by decide) (hd : (bx == ("__debug__" : Str)) = false := by decide) (hcd : (bx == ("__classdict__" : Str)) = false := by decide)
  (hs : ∀ env, swapsWith (.Call (.Name fx pf) [.Name bx pb, .Constant (.int kk) jj cp] [] q) (some (.Name y p)) pos.line env = pure false := by intro _; rfl)
  (he : ∀ env, starEach [.Name bx pb, .Constant (.int kk) jj cp] env = (false, eval (.Name bx pb) env) :: starEach [.Constant (.int kk) jj cp] env := by intro _; rfl) (hpl : ∀ env, (backTo q (starEach [.Constant (.int kk) jj cp] env)).any (·.1) = false := by intro _; rfl) :
  BVE Z x (.Assign [.Name y p] (.Call (.Name fx pf) [.Name bx pb, .Constant (.int kk) jj cp] [] q) pos :: rest) (av (aP i (aj N n mf (cIo j (aD (mC (.int kk)) aB)))) m) := by
 obtain ⟨f, fd, ps, f1, f2, f3, f4⟩ := F.ex
 obtain ⟨u, r1, r2⟩ := hr
 have sg : SG Z (tCons (tVar j) (tCons (tC (.int kk)) tNil)) (cIo j (aD (mC (.int kk)) aB)) := by
  intro g env σ I H Q as env' R hm k
  unfold cIo at hm
  obtain ⟨d, e1, hm⟩ := Option.bind_eq_some_iff.mp hm
  obtain ⟨s0, e0, e3⟩ := Option.bind_eq_some_iff.mp e1
  cases hm
  obtain ⟨a, o, hv, _⟩ := dE R e0 e3
  exact ⟨_, hv, k _ I H R (Same.refl _) (.cons (.io hv) (.cons (.imm .int) .nil))⟩
 refine ⟨tSeq (tAsg (tCall (spM Z.K Z.cl N n mf) [] E0 (tCons (tVar j) (tCons (tC (.int kk)) tNil))) (gName i)) u, fun X k pins s σ H D ex I h => ?_, fZ (ie (iQ sg)) r2⟩
 have hkl : X.env.kindOf y = some .local := by show X.env.scope.names.lookup y = _; rw [k.sc]; exact hv
 obtain ⟨m0, z, t, hn0, hz, ht1, ht2⟩ := ex
 obtain ⟨vb, hvb, h⟩ := h
 refine wpAny_execs_cons (wpAny_Assign_Name (wpAny_Call_Name_kw (ld_glob I (dt k hg) (by rw [k.mg]; exact f2) ?_ hdf)) (hs _))
 refine PySem.W.callWith_K (h₀ := X.base) I.ok.mod.kin (by rw [k.K]; exact f3) ?_ (he _) (hpl _)
 rw [he]
 show wpAny _ _ (spliced ((false, eval (.Name bx pb) X.env) :: backTo q (starEach [.Constant (.int kk) jj cp] X.env))) _ _ s
 refine Calls.spliced_cons (raw_name (by rw [k.N]; exact hb) (cD k hbv) I hvb (fun ub rb => ?_) hd hcd)
 show wpAny _ _ (spliced ((false, eval (.Constant (.int kk) jj cp) X.env) :: backTo q (starEach [] X.env))) _ _ s
 refine Calls.spliced_cons (wpAny_Constant_int (Calls.spliced_nil ?_))
 have I1 : Inv X pins σ H { s with toks := s.toks + 1 } := I.tok _
 refine ⟨I1.kIn, ?_⟩
 have FX : FnG X.prog X.w X.K X.mg X.base CX0 Z.k f fd ps (spM Z.K Z.cl N n mf) := by rw [k.prog, k.w, k.K, k.mg, k.base]; exact f1
 have h : spM Z.K Z.cl N n mf [vb, V.int kk] H (fun x H1 => gName i x σ H1 ({ D with nx := u D } : Ends).nx) E0 := h
 have vs : Vals [vb, V.int kk] [ub, Value.int kk s.toks] := .cons rb (.cons ⟨_, rfl⟩ .nil)
 refine wpAny_mono (PySem.wpAny_toks (wpAny_call (Q := fun u3 s3 => CE X.stack X.prog X.w H { s with toks := s.toks + 1 } (fun x H1 => gName i x σ H1 ({ D with nx := u D } : Ends).nx) u3 s3) (E := X.xe) (codeAny_mono (FX.go k.room k.gd I1.env0 (binds0 (by rw [k.K]; exact f4) I1 (vs.length.symm.trans (FX.ar h))) vs h) fun a b hq => ?_))) (fun u3 s3 q3 => ?_) fun _ _ z => z.2
 ·match a, hq with
  | .error e, hq => exact pass0 pins σ H _ e b I1 hq
  | .ok (.ret u), hq => exact hq
  | .ok .next, hq => exact hq.elim
  | .ok .brk, hq => exact hq.elim
  | .ok .cont, hq => exact hq.elim
 ·obtain ⟨hk3, ce⟩ := q3
  have hn3 : s3.heap.Ns X.env.locals m0 := by
   obtain ⟨_, _, _, _, un, _⟩ := id ce
   obtain ⟨o, es, ep, ho, hd', r⟩ := hn0
   obtain ⟨sl, hsl⟩ := un.any ho I.free (by simp)
   exact ⟨_, es, ep, hsl, hd', r⟩
  obtain ⟨v3, H3, I3, r3, q3⟩ := I1.after ce
  refine gF (v := v3) I3 k.nd (by rw [k.N]; exact hN) hkl r3 hn3 fun h' I4 hn4 => ?_
  have hk3' : s.toks + 1 ≤ s3.toks := hk3
  exact r1 X k pins _ _ H3 D ⟨_, z, t, hn4, by simp [hne, hz], ht1, Nat.lt_of_lt_of_le ht2 (show s.toks ≤ s3.toks + 1 by omega)⟩ I4 q3
def dH (j : Nat) (kk : Int) : MT := fun env => match env[j]? with
 | some (.imm (.int n)) => some (decide (n = kk), env)
 | _ => none
def tEqI (j : Nat) (kk : Int) : TT := fun σ H Q => ∃ n, σ[j]? = some (some (.int n)) ∧ Q (decide (n = kk)) H
theorem my {j : Nat} {kk : Int} : ST Z (tEqI j kk) (dH j kk) := by
 intro g env σ I H Q b env' R hm k
 unfold dH at hm
 split at hm
 ·rename_i n e
  cases hm
  obtain ⟨x, hx, v, rfl, r⟩ := R.at_ j _ e
  obtain rfl := r.int_inv
  exact ⟨n, hx, k I H R (Same.refl _)⟩
 ·cases hm
def mz (tc : TT) (ta u : TS) : TS := fun D σ H => tc σ H fun b H1 => if b = true then ta { D with nx := fun _ _ => False } σ H1 else u D σ H1
def eh (mc : MT) (ma m : MS) : MS := fun env => (mc env).bind fun p => if p.1 then (ma p.2).bind fun fl => match fl with
 | .nx _ => none
 | fl => some fl
 else m p.2
theorem nD {tc : TT} {ta u : TS} {mc : MT} {ma m : MS} (c2 : ST Z tc mc) (a2 : SS Z ta ma) (b2 : SS Z u m) : SS Z (mz tc ta u) (eh mc ma m) := by
 intro g env σ I H D fl R hm k
 unfold eh at hm
 obtain ⟨⟨b, e1⟩, e, hm⟩ := Option.bind_eq_some_iff.mp hm
 refine c2 g env σ I H _ b e1 R e fun I1 H1 R1 s1 => ?_
 cases b with
 | true =>
  simp only [if_true] at hm ⊢
  obtain ⟨f1, e2, hm⟩ := Option.bind_eq_some_iff.mp hm
  refine a2 g e1 σ I1 H1 _ f1 R1 e2 ?_
  cases f1 with
  | nx e => cases hm
  | bk e => cases hm; exact k.mono s1
  | ct e => cases hm; exact k.mono s1
  | ret md d e => cases hm; exact k.mono s1
 | false => exact b2 g e1 σ I1 H1 D fl R1 hm (k.mono s1)
theorem ij {j jj : Nat} {x y : Str} {kk : Int} {body rest : List Stmt} {ma m : MS} {p cp q pos : Pos} (hN : Z.N[j]? = some y) (hv : Vis Z.sc y) (ha : BV Z body ma) (hr : BVE Z x rest m)
  (hd : (y == ("__debug__" : Str)) = false := by decide) (hcd : (y == ("__classdict__" : Str)) = false := by decide)
  (hm : behindInMarks .Eq (.Constant (.int kk) jj cp) = false := by rfl) :
  BVE Z x (.If (.Compare (.Name y p) [.Eq] [.Constant (.int kk) jj cp] q) body [] pos :: rest) (eh (dH j kk) ma m) := by
 obtain ⟨ta, a1, a2⟩ := ha
 obtain ⟨u, r1, r2⟩ := hr
 refine ⟨mz (tEqI j kk) ta u, fun X k pins s σ H D ex I h => ?_, nD my a2 r2⟩
 obtain ⟨n, hn, h⟩ := h
 refine wpAny_execs_cons (wpAny_If (wpAny_isTrue_Compare1 (raw_name (by rw [k.N]; exact hN) (cD k hv) I hn (fun ub rb => ?_) hd hcd) hm))
 obtain ⟨tu, rfl⟩ := rb
 refine wpAny_Constant_int ?_
 show wpAny _ _ (richCompare .Eq (.int n tu) (.int kk s.toks)) _ _ _
 refine wpAny_eq_int (wpAny_truthy_bool ?_)
 have I1 : Inv X pins σ H { s with toks := s.toks + 1 } := I.tok _
 have hbeq : (n == kk) = decide (n = kk) := rfl
 rw [hbeq]
 cases hb : decide (n = kk) with
 | true =>
  rw [hb] at h
  simp only [if_true] at h ⊢
  refine wpAny_mono ((a1 X k).run pins _ σ H _ I1 h) (fun f s2 q2 => ?_) fun _ _ z => z
  cases f with
  | next => obtain ⟨_, _, _, q2⟩ := q2; exact q2.elim
  | brk => exact q2
  | cont => exact q2
  | ret v => exact q2
 | false =>
  rw [hb] at h
  simp only [Bool.false_eq_true, if_false] at h ⊢
  exact wpAny_execs_nil (r1 X k pins _ σ H D (ex.tok (Nat.le_succ _)) I1 h)
def fU (il ix : Nat) (y : Str) : MS := fun env => match env[il]?, env[ix]? with
 | some (.imm (.str w)), some (.imm (.str z)) => if w.length + (w.length + 1) * z.length ≤ 16777216 then some (.ret .imm (.str (Txt.replace w y z)) env) else none
 | _, _ => none
def jK (il ix : Nat) (y : Str) : TS := fun D σ H => ∃ w z, σ[il]? = some (some (.str w)) ∧ σ[ix]? = some (some (.str z)) ∧ w.length + (w.length + 1) * z.length ≤ 16777216 ∧ D.rt (.str (Txt.replace w y z)) H
theorem ke {il ix : Nat} {y : Str} : SS Z (jK il ix y) (fU il ix y) := by
 intro g env σ I H D fl R hm k
 unfold fU at hm
 split at hm
 ·rename_i w z e1 e2
  split at hm
  ·rename_i hl
   cases hm
   obtain ⟨x1, hx1, v1, rfl, q1⟩ := R.at_ il _ e1
   obtain ⟨x2, hx2, v2, rfl, q2⟩ := R.at_ ix _ e2
   obtain rfl := q1.str_inv
   obtain rfl := q2.str_inv
   exact ⟨w, z, hx1, hx2, hl, k σ I H _ R (Same.refl _) .str⟩
  ·cases hm
 ·cases hm
theorem ns_none_of {K : PySem.W.Frag} {h : Heap} {mg : Str → Option Value} {n : Str} {a : Addr} (X : K.In h) (G : h.Ns a mg) (e : PySem.W.nsIn K a n = some none) : mg n = none := by
 obtain ⟨o, es, ep, ho, hd, hk, hf⟩ := G
 unfold PySem.W.nsIn at e
 split at e
 ·rename_i c d es' n' sl q
  have := X _ _ q
  rw [ho] at this
  cases this
  cases hd
  split at e
  ·cases e
  ·rename_i he
   rw [← hf]
   unfold nsFind findBy
   rw [← Array.find?_toList, he]
   rfl
 ·cases e
theorem iD (I : Inv X pins σ H s) (e : PySem.W.nsIn X.K cStatics sharingNotToldKey = some none) : NoneBooked s.heap := by
 obtain ⟨mc, hn, _⟩ := I.nolimit
 exact ⟨mc, hn, ns_none_of I.kIn hn e⟩
theorem jQ {il ix jj : Nat} {lx x y : Str} {p1 p2 cp apos q pos : Pos} (hS : PySem.W.nsIn Z.K cStatics sharingNotToldKey = some none) (hl : Z.N[il]? = some lx) (hlv : Vis Z.sc lx) (hx : Z.N[ix]? = some x) (hxv : Z.sc.names.lookup x = some .local)
  (hd : (lx == ("__debug__" : Str)) = false := by decide) (hcd : (lx == ("__classdict__" : Str)) = false := by decide) (hdx : (x == ("__debug__" : Str)) = false := by decide)
  (hst : ∀ env, starEach [.Constant (.str y) jj cp, .Name x p2] env = [(false, eval (.Constant (.str y) jj cp) env), (false, eval (.Name x p2) env)] := by intro _; rfl)
  (hbase : ∀ env, attributeBase (.Name lx p1) "replace" env (eval (.Name lx p1) env) = eval (.Name lx p1) env := by intro _; rfl) (hline : (apos.endLine == q.line) = true := by rfl) :
  BVE Z x [.Return (some (.Call (.Attribute (.Name lx p1) "replace" apos) [.Constant (.str y) jj cp, .Name x p2] [] q)) pos] (fU il ix y) := by
 refine ⟨jK il ix y, fun X k pins s σ H D ex I h => ?_, ke⟩
 obtain ⟨w, z, h1, h2, hb, h⟩ := h
 obtain ⟨m0, z0, t, hn, hz, ht1, ht2⟩ := ex
 have hkl : X.env.kindOf x = some .local := by show X.env.scope.names.lookup x = _; rw [k.sc]; exact hxv
 have hz0 : z0 = z := by
  obtain ⟨m1, hn1, hlk⟩ := id I.loc
  obtain ⟨u, r, l⟩ := hlk ix x (.str z) (by rw [k.N]; exact hx) h2 (cD k (.inl hxv))
  obtain ⟨t1, rfl⟩ := r
  rcases l with ⟨_, e⟩ | ⟨hk, _⟩
  ·have := Heap.Ns.agree hn1 hn x
   rw [e, hz] at this
   cases this
   rfl
  ·rcases hk with hk | hk
   ·rw [hkl] at hk; cases hk
   ·rw [hkl] at hk; cases hk
 subst hz0
 have hnb : NoneBooked s.heap := iD I (by rw [k.K]; exact hS)
 refine wpAny_execs_cons (wpAny_Return_some (PySem.Call_method2 (hbase _) (hst _) hline (raw_name (by rw [k.N]; exact hl) (cD k hlv) I h1 (fun u r => ?_) hd hcd)))
 obtain ⟨tw, rfl⟩ := r
 refine ⟨"str", _, F.plainAttrs_str, F.slot_str_replace, F.type_str_replace, typeIs_str _ _ _, (fun _ e => nomatch e), Calls.callWith_builtin rfl (Calls.evalArgs_plain (Calls.spliced_cons (Calls.Constant_str ?_)))⟩
 refine Calls.spliced_cons (wpAny_Name (wpAny_loadName_local I.ok.kind hkl hn hz ?_) hdx)
 refine Calls.spliced_nil ?_
 have hu : s.toks ≠ t := fun e => Nat.lt_irrefl _ (e ▸ ht2)
 exact PySem.SC.replaceA (Nat.ne_of_gt (Nat.lt_of_lt_of_le (Nat.lt_of_lt_of_le Nat.zero_lt_one ht1) (Nat.le_of_lt ht2))) (Nat.ne_of_gt (Nat.lt_of_lt_of_le Nat.zero_lt_one ht1)) hu hb (fun t' kk => ⟨.str (Txt.replace w y z0), σ, H, I.tok kk, ⟨t', rfl⟩, h⟩) hnb
end
end Q
namespace Q
open PySem L2
theorem lvv {Z : Zc} (i : Nat) {x : Str} {pos : Pos} (hN : Z.N[i]? = some x := by rfl) (hv : Vis Z.sc x := by first | exact Or.inl rfl | exact Or.inr (Or.inl rfl) | exact Or.inr (Or.inr rfl)) (hd : (x == ("__debug__" : Str)) = false := by decide) (hcd : (x == ("__classdict__" : Str)) = false := by decide) : LV Z (.Name x pos) (af i) := mU hN hv hd hcd
theorem evv {Z : Zc} (i : Nat) {x : Str} {pos : Pos} (hN : Z.N[i]? = some x := by rfl) (hv : Vis Z.sc x := by first | exact Or.inl rfl | exact Or.inr (Or.inl rfl) | exact Or.inr (Or.inr rfl)) (hd : (x == ("__debug__" : Str)) = false := by decide) (hcd : (x == ("__classdict__" : Str)) = false := by decide) : EV Z (.Name x pos) (aC i) := mL hN hv hd hcd
theorem gvn {Z : Zc} (i : Nat) {x : Str} {p : Pos} (hN : Z.N[i]? = some x := by rfl) (hv : eO Z x := by first | exact Or.inr rfl | exact Or.inl ⟨rfl, Or.inl rfl⟩ | exact Or.inl ⟨rfl, Or.inr rfl⟩) : GV Z (.Name x p) [i] (gN i) := l0 hN hv
theorem saf {Z : Zc} (i : Nat) {x : Str} {e : Expr} {m : ME} {p pos : Pos} (h : EF Z e m) (hN : Z.N[i]? = some x := by rfl) (hv : eO Z x := by first | exact Or.inr rfl | exact Or.inl ⟨rfl, Or.inl rfl⟩ | exact Or.inl ⟨rfl, Or.inr rfl⟩) (hs : ∀ env, swapsWithSole [.Name x p] e pos.line env = pure false := by intro _; rfl) (hw : ∀ env, swappedStores [.Name x p] e env = pure none := by intro _; rfl) (h1 : ∀ env, (assignEach [.Name x p] env).map (·.2) = [assign (.Name x p) env] := by intro _; rfl) : SV Z (.Assign [.Name x p] e pos) (ek i m) := k9 hN hv h hs hw h1
theorem sva {Z : Zc} (i : Nat) {x : Str} {e : Expr} {m : ME} {p pos : Pos} (h : EV Z e m) (hN : Z.N[i]? = some x := by rfl) (hv : eO Z x := by first | exact Or.inr rfl | exact Or.inl ⟨rfl, Or.inl rfl⟩ | exact Or.inl ⟨rfl, Or.inr rfl⟩) (hs : ∀ env, swapsWithSole [.Name x p] e pos.line env = pure false := by intro _; rfl) (hw : ∀ env, swappedStores [.Name x p] e env = pure none := by intro _; rfl) (h1 : ∀ env, (assignEach [.Name x p] env).map (·.2) = [assign (.Name x p) env] := by intro _; rfl) : SV Z (.Assign [.Name x p] e pos) (aP i m) := mS hN hv h hs hw h1
end Q
namespace Law
open PySem L2 Q
def top (i : Nat) : Stmt := PySem.Challenge.pw_clearfloor_k64_lines_of_events.main.body.getD i (.Pass ⟨0, 0, 0, 0⟩)
structure Txt (c : Pc) : Prop where
 b_any : c.mg "any" = none
 b_int : c.mg "int" = none
 b_isinstance : c.mg "isinstance" = none
 b_len : c.mg "len" = none
 b_range : c.mg "range" = none
 b_repr : c.mg "repr" = none
 b_str : c.mg "str" = none
 b_tuple : c.mg "tuple" = none
 c_FIGURES : ∃ t, c.mg "FIGURES" = some (.str "0123456789" t)
 c_LETTERS : ∃ t, c.mg "LETTERS" = some (.str "ABCDEFGHIJKLMNOPQRSTUVWXYZ" t)
 c_MOST_FIGURES : ∃ t, c.mg "MOST_FIGURES" = some (.int 6 t)
 booked : PySem.W.nsIn c.K cStatics sharingNotToldKey = some none
abbrev dG : Stmt := top 10
abbrev eC : List Str := ["cell", "k", "many", "row", "turn", "seed"]
theorem oM : FnScope eC ["cell", "k", "many"] (defScope dG) := ⟨rfl, rfl, rfl, by decide +kernel, rfl, by decide +kernel, by decide +kernel⟩
def eD : MS :=
  (av (ek 3 (bw aZ))
  (av (bj (ao (ae dLt (af 0) (aa (mC (.int 0)))))
  (aP 0 (ae gU (aa (mC (.int 1))) (aa (ae bB (aa (mC (.int 2))) (af 0)))))
  aY)
  (av (bj (ao (ae dGe (af 0) (aa (ae gq (aa (mC (.int 10))) (aa (mC (.int 18)))))))
  (av (cF (iR1 (ai (mC (.int 60)) aZ)) (gN 4)
  (bj (eu (ao (ae dGt (af 0) (aa (mC (.int 0))))) (ao (ae dLt (aa (mBi aU (aw (af 3) aJ))) (af 2))))
  (av (eG 3 (ae bU (aa (mBi bP (aw (af 0) aJ))) (aa (mC (.int 1000)))))
  (aP 0 (ae ei (af 0) (aa (mC (.int 1000))))))
  aY))
  (dR 3))
  aY)
  (av (aP 5 (ae bU (aa (mBi bP (aw (aa (ae aT (aa (ae aT (aa (ae bB (af 0) (aa (mC (.int 48271))))) (aa (ae bB (af 1) (aa (mC (.int 69621))))))) (aa (mC (.int 11))))) aJ))) (aa (mC (.int 2147483647)))))
  (av (cF (iR1 (ai (aC 2) aZ)) (gN 4)
  (av (aP 5 (ae bU (aa (mBi bP (aw (aa (ae aT (aa (ae aT (aa (ae bB (af 5) (aa (mC (.int 16807))))) (aa (ae bB (aa (mC (.int 7))) (af 4))))) (aa (mC (.int 1))))) aJ))) (aa (mC (.int 2147483647)))))
  (eG 3 (ae bU (aa (mBi bP (aw (aa (ae ei (af 5) (aa (mC (.int 997))))) aJ))) (aa (mC (.int 1000)))))))
  (dR 3))))))
theorem pT {c : Pc} (T : Txt c) : BV (c.z 0 eC (defScope dG)) (defBody dG) eD :=
  (au (saf 3 (eI bM))
  (au (bu (bf (fun _ _ => op_lt) cM (lvv 0) (ab ah) (nomark _))
  (az (sva 0 (aF (fun _ _ => op_sub) mu (ab ah) (ab (aF (fun _ _ => op_mul) dM (ab ah) (lvv 0))))))
  bo)
  (au (bu (bf (fun _ _ => op_ge) cM (lvv 0) (ab (aF (fun _ _ => op_pow) mq (ab ah) (ab ah))) (nomark _))
  (au (fV (gu (by rfl) T.b_range (aH ah bM)) (gvn 4)
  (az (bu ((jJ (bf (fun _ _ => op_gt) cM (lvv 0) (ab ah) (nomark _)) (iK (bf (fun _ _ => op_lt) cM (ab (br (fun _ h => cx h) cu (by rfl) T.b_len (by decide +kernel) (aK (lvv 3) aW))) (lvv 2) (nomark _))))).tv
  (au (gI (i := 3) rfl (by first | exact Or.inl rfl | exact Or.inr (Or.inl rfl) | exact Or.inr (Or.inr rfl)) (aF (fun _ _ => op_mod) c7 (ab (bH (fun _ _ => cR) cB (by rfl) T.b_int (by decide +kernel) (aK (lvv 0) aW))) (ab ah)))
  (az (sva 0 (aF (fun _ _ => op_fdiv) jq (lvv 0) (ab ah)))))
  bo)))
  (az (iS (i := 3) rfl (by first | exact Or.inl rfl | exact Or.inr (Or.inl rfl) | exact Or.inr (Or.inr rfl)))))
  bo)
  (au (sva 5 (aF (fun _ _ => op_mod) c7 (ab (bH (fun _ _ => cR) cB (by rfl) T.b_int (by decide +kernel) (aK (ab (aF (fun _ _ => a9) a8 (ab (aF (fun _ _ => a9) a8 (ab (aF (fun _ _ => op_mul) dM (lvv 0) (ab ah))) (ab (aF (fun _ _ => op_mul) dM (lvv 1) (ab ah))))) (ab ah))) aW))) (ab ah)))
  (au (fV (gu (by rfl) T.b_range (aH (evv 2) bM)) (gvn 4)
  (au (sva 5 (aF (fun _ _ => op_mod) c7 (ab (bH (fun _ _ => cR) cB (by rfl) T.b_int (by decide +kernel) (aK (ab (aF (fun _ _ => a9) a8 (ab (aF (fun _ _ => a9) a8 (ab (aF (fun _ _ => op_mul) dM (lvv 5) (ab ah))) (ab (aF (fun _ _ => op_mul) dM (ab ah) (lvv 4))))) (ab ah))) aW))) (ab ah)))
  (az (gI (i := 3) rfl (by first | exact Or.inl rfl | exact Or.inr (Or.inl rfl) | exact Or.inr (Or.inr rfl)) (aF (fun _ _ => op_mod) c7 (ab (bH (fun _ _ => cR) cB (by rfl) T.b_int (by decide +kernel) (aK (ab (aF (fun _ _ => op_fdiv) jq (lvv 5) (ab ah))) aW))) (ab ah))))))
  (az (iS (i := 3) rfl (by first | exact Or.inl rfl | exact Or.inr (Or.inl rfl) | exact Or.inr (Or.inr rfl)))))))))
theorem pW {c : Pc} {f : Addr} {fd : FuncData} (T : Txt c) (F : Fun c.K "_law_row" "_law_row" dG f fd) (hm : c.mg "_law_row" = some (.ref f)) : FnC c 1 "_law_row" eC 3 eD :=
 ⟨f, fd, ["cell", "k", "many"], cf F oM (pT T), hm, F.kp, F.binds (ps := ["cell", "k", "many"]) fun _ _ _ _ _ _ us hl => match us, hl with | [_, _, _], _ => rfl⟩
abbrev du : Stmt := top 9
abbrev eF : List Str := ["script", "k"]
theorem oC : FnScope eF ["script", "k"] (defScope du) := ⟨rfl, rfl, rfl, by decide +kernel, rfl, by decide +kernel, by decide +kernel⟩
def eR : MS :=
  (av (bj (ao (ae dLt (af 1) (aa (mBi aU (aw (af 0) aJ)))))
  (aN (ae dIx (af 0) (af 1)))
  aY)
  (aN (mC (.int 0))))
theorem pQ {c : Pc} (T : Txt c) : BV (c.z 0 eF (defScope du)) (defBody du) eR :=
  (au (bu (bf (fun _ _ => op_lt) cM (lvv 1) (ab (br (fun _ h => cx h) cu (by rfl) T.b_len (by decide +kernel) (aK (lvv 0) aW))) (nomark _))
  (az (aL (ba (lvv 0) (lvv 1))))
  bo)
  (az (aL ah)))
theorem pw {c : Pc} {f : Addr} {fd : FuncData} (T : Txt c) (F : Fun c.K "_law_cell" "_law_cell" du f fd) (hm : c.mg "_law_cell" = some (.ref f)) : FnC c 1 "_law_cell" eF 2 eR :=
 ⟨f, fd, ["script", "k"], cf F oC (pQ T), hm, F.kp, F.binds (ps := ["script", "k"]) fun _ _ _ _ _ _ us hl => match us, hl with | [_, _], _ => rfl⟩
abbrev dy : Stmt := top 11
abbrev dZ : List Str := ["script", "first", "last", "row", "k"]
theorem n9 : FnScope dZ ["script", "first", "last"] (defScope dy) := ⟨rfl, rfl, rfl, by decide +kernel, rfl, by decide +kernel, by decide +kernel⟩
def dY : MS :=
  (av (aP 3 (bw aZ))
  (av (cF (iR2 (ai (aC 1) (ai (aC 2) aZ))) (gN 4)
  (aP 3 (ae hV (af 3) (aa (aj eC 3 eD (aD (aj eF 2 eR (aD (aC 0) (aD (aC 4) aB))) (aD (aC 4) (aD (mC (.int 12)) aB))))))))
  (fO (bw (ai (aC 3) (ai (mC (.int 0)) aZ))))))
theorem pE {c : Pc} (T : Txt c) (G_zl : FnC c 1 "_law_row" eC 3 eD) (G_zj : FnC c 1 "_law_cell" eF 2 eR) : BV (c.z 1 dZ (defScope dy)) (defBody dy) dY :=
  (au (sva 3 (eI bM).ev)
  (au (fV (l4 (by rfl) T.b_range (aH (evv 1) (aH (evv 2) bM))) (gvn 4)
  (az (sva 3 (oG (fun _ _ => op_cat) nh (lvv 3) (ab (aV (G_zl.z (by decide)) (by rfl) (aX (aV (G_zj.z (by decide)) (by rfl) (aX (evv 0) (aX (evv 4) bc))) (aX (evv 4) (aX ah bc)))))).ev)))
  (az (lI (eI (aH (evv 3) (aH ah bM)))))))
theorem qj {c : Pc} {f : Addr} {fd : FuncData} (T : Txt c) (F : Fun c.K "_law_box" "_law_box" dy f fd) (hm : c.mg "_law_box" = some (.ref f)) (G_zl : FnC c 1 "_law_row" eC 3 eD) (G_zj : FnC c 1 "_law_cell" eF 2 eR) : FnC c 2 "_law_box" dZ 3 dY :=
 ⟨f, fd, ["script", "first", "last"], cf F n9 (pE T G_zl G_zj), hm, F.kp, F.binds (ps := ["script", "first", "last"]) fun _ _ _ _ _ _ us hl => match us, hl with | [_, _, _], _ => rfl⟩
abbrev dQ : Stmt := top 12
abbrev bE : List Str := ["box", "many", "at"]
theorem ot : FnScope bE ["box", "many"] (defScope dQ) := ⟨rfl, rfl, rfl, by decide +kernel, rfl, by decide +kernel, by decide +kernel⟩
def bA : MS :=
  (av (aP 2 (ae dIx (af 0) (aa (mC (.int 1)))))
  (av (fX 0 (ae aT (af 2) (aa (mC (.int 1)))) (mC (.int 1)))
  (av (bj (ao (ae dLt (af 2) (aa (mBi aU (aw (aa (ae dIx (af 0) (aa (mC (.int 0))))) aJ)))))
  (aN (ae bU (aa (mBi bP (aw (aa (ae dIx (aa (ae dIx (af 0) (aa (mC (.int 0))))) (af 2))) aJ))) (af 1)))
  aY)
  (aN (ae bU (aa (mBi bP (aw (aa (ae aT (aa (ae bB (af 2) (aa (mC (.int 7))))) (aa (mC (.int 3))))) aJ))) (af 1))))))
theorem pq {c : Pc} (T : Txt c) : BV (c.z 0 bE (defScope dQ)) (defBody dQ) bA :=
  (au (sva 2 (ba (lvv 0) (ab ah)))
  (au (lA (i := 0) rfl (by first | exact Or.inl rfl | exact Or.inr (Or.inl rfl) | exact Or.inr (Or.inr rfl)) (aF (fun _ _ => a9) a8 (lvv 2) (ab ah)) ah)
  (au (bu (bf (fun _ _ => op_lt) cM (lvv 2) (ab (br (fun _ h => cx h) cu (by rfl) T.b_len (by decide +kernel) (aK (ab (ba (lvv 0) (ab ah))) aW))) (nomark _))
  (az (aL (aF (fun _ _ => op_mod) c7 (ab (bH (fun _ _ => cR) cB (by rfl) T.b_int (by decide +kernel) (aK (ab (ba (ab (ba (lvv 0) (ab ah))) (lvv 2))) aW))) (lvv 1))))
  bo)
  (az (aL (aF (fun _ _ => op_mod) c7 (ab (bH (fun _ _ => cR) cB (by rfl) T.b_int (by decide +kernel) (aK (ab (aF (fun _ _ => a9) a8 (ab (aF (fun _ _ => op_mul) dM (lvv 2) (ab ah))) (ab ah))) aW))) (lvv 1)))))))
theorem pU {c : Pc} {f : Addr} {fd : FuncData} (T : Txt c) (F : Fun c.K "_law_draw" "_law_draw" dQ f fd) (hm : c.mg "_law_draw" = some (.ref f)) : FnC c 1 "_law_draw" bE 2 bA :=
 ⟨f, fd, ["box", "many"], cf F ot (pq T), hm, F.kp, F.binds (ps := ["box", "many"]) fun _ _ _ _ _ _ us hl => match us, hl with | [_, _], _ => rfl⟩
abbrev dF : Stmt := top 15
abbrev fo : List Str := ["box", "kind", "start", "number"]
theorem oB : FnScope fo ["box"] (defScope dF) := ⟨rfl, rfl, rfl, by decide +kernel, rfl, by decide +kernel, by decide +kernel⟩
def eZ : MS :=
  (av (aP 1 (ae dIx (aa (bw (ai (mC (.str "order")) (ai (mC (.str "go")) (ai (mC (.str "fail")) (ai (mC (.str "tow")) aZ)))))) (aa (aj bE 2 bA (cIo 0 (aD (mC (.int 4)) aB))))))
  (av (bj (ao (ae (aG false) (af 1) (aa (mC (.str "order")))))
  (av (aP 2 (aj bE 2 bA (cIo 0 (aD (mC (.int 26)) aB))))
  (aN (bK (ai (aC 1) (ai (aC 2) (ai (ae bU (aa (mBi bP (aw (aa (ae aT (aa (ae aT (af 2) (aa (mC (.int 1))))) (aa (aj bE 2 bA (cIo 0 (aD (mC (.int 25)) aB)))))) aJ))) (aa (mC (.int 26)))) aZ))))))
  aY)
  (av (aP 3 (aj bE 2 bA (cIo 0 (aD (mC (.int 1000)) aB))))
  (av (bj (ao (ae (aG false) (aa (aj bE 2 bA (cIo 0 (aD (mC (.int 2)) aB)))) (aa (mC (.int 1)))))
  (aP 3 (ae aT (aa (ae bB (af 3) (aa (mC (.int 1000))))) (aa (aj bE 2 bA (cIo 0 (aD (mC (.int 1000)) aB))))))
  aY)
  (aN (bK (ai (aC 1) (ai (aC 3) aZ))))))))
theorem pa {c : Pc} (T : Txt c) (G_zh : FnC c 1 "_law_draw" bE 2 bA) : BV (c.z 1 fo (defScope dF)) (defBody dF) eZ :=
  (au (sva 1 (ba (ab (eI (aH aR (aH aR (aH aR (aH aR bM))))).ev) (ab (aV (G_zh.z (by decide)) (by rfl) (cY (i := 0) rfl (by first | exact Or.inl rfl | exact Or.inr (Or.inl rfl) | exact Or.inr (Or.inr rfl)) (aX ah bc))))))
  (au (bu (bf (fun _ h => or_eq h) dh (lvv 1) (ab aR) (nomark _))
  (au (sva 2 (aV (G_zh.z (by decide)) (by rfl) (cY (i := 0) rfl (by first | exact Or.inl rfl | exact Or.inr (Or.inl rfl) | exact Or.inr (Or.inr rfl)) (aX ah bc))))
  (az (aL (eV (aH (evv 1) (aH (evv 2) (aH (aF (fun _ _ => op_mod) c7 (ab (bH (fun _ _ => cR) cB (by rfl) T.b_int (by decide +kernel) (aK (ab (aF (fun _ _ => a9) a8 (ab (aF (fun _ _ => a9) a8 (lvv 2) (ab ah))) (ab (aV (G_zh.z (by decide)) (by rfl) (cY (i := 0) rfl (by first | exact Or.inl rfl | exact Or.inr (Or.inl rfl) | exact Or.inr (Or.inr rfl)) (aX ah bc)))))) aW))) (ab ah)) bM)))))))
  bo)
  (au (sva 3 (aV (G_zh.z (by decide)) (by rfl) (cY (i := 0) rfl (by first | exact Or.inl rfl | exact Or.inr (Or.inl rfl) | exact Or.inr (Or.inr rfl)) (aX ah bc))))
  (au (bu (bf (fun _ h => or_eq h) dh (ab (aV (G_zh.z (by decide)) (by rfl) (cY (i := 0) rfl (by first | exact Or.inl rfl | exact Or.inr (Or.inl rfl) | exact Or.inr (Or.inr rfl)) (aX ah bc)))) (ab ah) (nomark _))
  (az (sva 3 (aF (fun _ _ => a9) a8 (ab (aF (fun _ _ => op_mul) dM (lvv 3) (ab ah))) (ab (aV (G_zh.z (by decide)) (by rfl) (cY (i := 0) rfl (by first | exact Or.inl rfl | exact Or.inr (Or.inl rfl) | exact Or.inr (Or.inr rfl)) (aX ah bc)))))))
  bo)
  (az (aL (eV (aH (evv 1) (aH (evv 3) bM)))))))))
theorem pZ {c : Pc} {f : Addr} {fd : FuncData} (T : Txt c) (F : Fun c.K "_law_drawn" "_law_drawn" dF f fd) (hm : c.mg "_law_drawn" = some (.ref f)) (G_zh : FnC c 1 "_law_draw" bE 2 bA) : FnC c 2 "_law_drawn" fo 1 eZ :=
 ⟨f, fd, ["box"], cf F oB (pa T G_zh), hm, F.kp, F.binds (ps := ["box"]) fun _ _ _ _ _ _ us hl => match us, hl with | [_], _ => rfl⟩
abbrev dB : Stmt := top 14
abbrev dJ : List Str := ["event", "letters"]
theorem nH : FnScope dJ ["event"] (defScope dB) := ⟨rfl, rfl, rfl, by decide +kernel, rfl, by decide +kernel, by decide +kernel⟩
def da : MS :=
  (av (aP 1 (mC (.str "ABCDEFGHIJKLMNOPQRSTUVWXYZ")))
  (av (bj (ao (ae (aG false) (aa (ae dIx (af 0) (aa (mC (.int 0))))) (aa (mC (.str "order")))))
  (aN (ae aT (aa (ae aT (aa (ae aT (aa (mC (.str "order "))) (aa (ae dIx (af 1) (aa (ae dIx (af 0) (aa (mC (.int 1))))))))) (aa (mC (.str " "))))) (aa (ae dIx (af 1) (aa (ae dIx (af 0) (aa (mC (.int 2)))))))))
  aY)
  (aN (ae aT (aa (ae aT (aa (ae dIx (af 0) (aa (mC (.int 0))))) (aa (mC (.str " "))))) (aa (mBi jf (aw (aa (ae dIx (af 0) (aa (mC (.int 1))))) aJ)))))))
theorem pk {c : Pc} (T : Txt c) : BV (c.z 0 dJ (defScope dB)) (defBody dB) da :=
  (au (sva 1 aR)
  (au (bu (bf (fun _ h => or_eq h) dh (ab (ba (lvv 0) (ab ah))) (ab aR) (nomark _))
  (az (aL (aF (fun _ _ => a9) a8 (ab (aF (fun _ _ => a9) a8 (ab (aF (fun _ _ => a9) a8 (ab aR) (ab (ba (lvv 1) (ab (ba (lvv 0) (ab ah))))))) (ab aR))) (ab (ba (lvv 1) (ab (ba (lvv 0) (ab ah))))))))
  bo)
  (az (aL (aF (fun _ _ => a9) a8 (ab (aF (fun _ _ => a9) a8 (ab (ba (lvv 0) (ab ah))) (ab aR))) (ab (bH (fun _ _ => mN) nF (by rfl) T.b_str (by decide +kernel) (aK (ab (ba (lvv 0) (ab ah))) aW))))))))
theorem pL {c : Pc} {f : Addr} {fd : FuncData} (T : Txt c) (F : Fun c.K "_law_line" "_law_line" dB f fd) (hm : c.mg "_law_line" = some (.ref f)) : FnC c 1 "_law_line" dJ 1 da :=
 ⟨f, fd, ["event"], cf F nH (pk T), hm, F.kp, F.binds (ps := ["event"]) fun _ _ _ _ _ _ us hl => match us, hl with | [_], _ => rfl⟩
abbrev dD : Stmt := top 13
abbrev cN : List Str := ["one", "other"]
theorem oI : FnScope cN ["one", "other"] (defScope dD) := ⟨rfl, rfl, rfl, by decide +kernel, rfl, by decide +kernel, by decide +kernel⟩
def cL : MS :=
  (aN (ae (aG false) (aa (mBi fc (aw (af 0) aJ))) (aa (mBi fc (aw (af 1) aJ)))))
theorem ph {c : Pc} (T : Txt c) : BV (c.z 0 cN (defScope dD)) (defBody dD) cL :=
  (az (aL (eU (fun _ h => or_eq h) dh (ab (br (fun _ h => iR h) iT (by rfl) T.b_repr (by decide +kernel) (aK (lvv 0) aW))) (ab (br (fun _ h => iR h) iT (by rfl) T.b_repr (by decide +kernel) (aK (lvv 1) aW))) (nomark _))))
theorem qa {c : Pc} {f : Addr} {fd : FuncData} (T : Txt c) (F : Fun c.K "_law_same" "_law_same" dD f fd) (hm : c.mg "_law_same" = some (.ref f)) : FnC c 1 "_law_same" cN 2 cL :=
 ⟨f, fd, ["one", "other"], cf F oI (ph T), hm, F.kp, F.binds (ps := ["one", "other"]) fun _ _ _ _ _ _ us hl => match us, hl with | [_, _], _ => rfl⟩
abbrev dP : Stmt := top 4
abbrev eP : List Str := ["event"]
theorem n6 : FnScope eP ["event"] (defScope dP) := ⟨rfl, rfl, rfl, by decide +kernel, rfl, by decide +kernel, by decide +kernel⟩
def et : MS :=
  (av (bj (ao (ae (aG false) (aa (ae dIx (af 0) (aa (mC (.int 0))))) (aa (mC (.str "order")))))
  (aN (cj [(mC (.str "order ")), (cH (ae dIx (aa (mC (.str "ABCDEFGHIJKLMNOPQRSTUVWXYZ"))) (aa (ae dIx (af 0) (aa (mC (.int 1))))))), (mC (.str " ")), (cH (ae dIx (aa (mC (.str "ABCDEFGHIJKLMNOPQRSTUVWXYZ"))) (aa (ae dIx (af 0) (aa (mC (.int 2)))))))]))
  aY)
  (aN (cj [(cH (ae dIx (af 0) (aa (mC (.int 0))))), (mC (.str " ")), (cH (ae dIx (af 0) (aa (mC (.int 1)))))])))
theorem pP {c : Pc} (T : Txt c) : BV (c.z 0 eP (defScope dP)) (defBody dP) et :=
  (au (bu (bf (fun _ h => or_eq h) dh (ab (ba (lvv 0) (ab ah))) (ab aR) (nomark _))
  (az (aL (gG (JV.cons aR (JV.cons (fL (ba (ab (dk (by rfl) (by exact T.c_LETTERS))) (ab (ba (lvv 0) (ab ah))))) (JV.cons aR (JV.cons (fL (ba (ab (dk (by rfl) (by exact T.c_LETTERS))) (ab (ba (lvv 0) (ab ah))))) JV.nil)))))))
  bo)
  (az (aL (gG (JV.cons (fL (ba (lvv 0) (ab ah))) (JV.cons aR (JV.cons (fL (ba (lvv 0) (ab ah))) JV.nil)))))))
theorem px {c : Pc} {f : Addr} {fd : FuncData} (T : Txt c) (F : Fun c.K "write_event" "write_event" dP f fd) (hm : c.mg "write_event" = some (.ref f)) : FnC c 1 "write_event" eP 1 et :=
 ⟨f, fd, ["event"], cf F n6 (pP T), hm, F.kp, F.binds (ps := ["event"]) fun _ _ _ _ _ _ us hl => match us, hl with | [_], _ => rfl⟩
abbrev dd : Stmt := top 6
abbrev dX : List Str := ["parts", "part"]
theorem ox : FnScope dX ["parts"] (defScope dd) := ⟨rfl, rfl, rfl, by decide +kernel, rfl, by decide +kernel, by decide +kernel⟩
def cC : MS :=
  (av (bj (ao (ae (aG true) (aa (mBi aU (aw (af 0) aJ))) (aa (mC (.int 2)))))
  (aN (mC .non))
  aY)
  (av (bj (cb (aa (mGx true [1] (df (aC 0)) (gN 1) dw (fy (ae (aG true) (aa (mBi aU (aw (af 1) aJ))) (aa (mC (.int 1)))) (ae (dIn true) (af 1) (aa (mC (.str "ABCDEFGHIJKLMNOPQRSTUVWXYZ"))))))))
  (aN (mC .non))
  aY)
  (aN (bK (ai (mC (.str "order")) (ai (mM1 eb (mC (.str "ABCDEFGHIJKLMNOPQRSTUVWXYZ")) (ae dIx (af 0) (aa (mC (.int 0))))) (ai (mM1 eb (mC (.str "ABCDEFGHIJKLMNOPQRSTUVWXYZ")) (ae dIx (af 0) (aa (mC (.int 1))))) aZ)))))))
theorem pB {c : Pc} (T : Txt c) {Cc Pp : Addr} (hP : bp c.cl Pp) : BV (c.z 2 dX (defScope dd) (some (Cc, Pp))) (defBody dd) cC :=
  (au (bu (bf (fun _ h => f9 h) fF (ab (br (fun _ h => cx h) cu (by rfl) T.b_len (by decide +kernel) (aK (lvv 0) aW))) (ab ah) (nomark _))
  (az (aL cO))
  bo)
  (au (bu (eN (ab (jI (own := ([("part", 1)] : List (Str × Nat))) (k := 0) rfl (by show 0 + 2 ≤ 2; decide) (by rfl) T.b_any (hi := (jG (evv 0))) (ok := (blkOk_by (N := dX) (sc := defScope dd) (own := ([("part", 1)] : List (Str × Nat))) (by decide +kernel))) (hsc := by decide +kernel) (hg := (gvn 1)) (ht := jF) (he := (oN (eU (fun _ h => f9 h) fF (ab (br (fun _ h => cx h) cu (by rfl) (by exact T.b_len) (by decide +kernel) (aK (lvv 1) aW))) (ab ah) (nomark _)) (mw (eU (fun _ h => fP h) fC (lvv 1) (ab (dk (by rfl) (by exact T.c_LETTERS))) (by rfl))))) (hP := hP))))
  (az (aL cO))
  bo)
  (az (aL (eV (aH aR (aH (gL (dk (by rfl) (by exact T.c_LETTERS)) (ba (lvv 0) (ab ah))) (aH (gL (dk (by rfl) (by exact T.c_LETTERS)) (ba (lvv 0) (ab ah))) bM))))))))
theorem p7 {c : Pc} {f : Addr} {fd : FuncData} (T : Txt c) {Cc Pp : Addr} (hP : bp c.cl Pp) (hco : fd.code = .ref Cc) (hTB : GxR.TabB c.base c.mg Cc Pp) (F : Fun c.K "read_order" "read_order" dd f fd) (hm : c.mg "read_order" = some (.ref f)) : FnC c 3 "read_order" dX 1 cC :=
 ⟨f, fd, ["parts"], cf (me := some (Cc, Pp)) F ox (pB T hP) (fun c1 P1 e => by cases e; exact ⟨hco, hTB, hP⟩), hm, F.kp, F.binds (ps := ["parts"]) fun _ _ _ _ _ _ us hl => match us, hl with | [_], _ => rfl⟩
abbrev de : Stmt := top 5
abbrev d6 : List Str := ["text", "sign"]
theorem n7 : FnScope d6 ["text"] (defScope de) := ⟨rfl, rfl, rfl, by decide +kernel, rfl, by decide +kernel, by decide +kernel⟩
def c9 : MS :=
  (av (bj (b9 (ao (cK dLe dLe (aa (mC (.int 1))) (aa (mBi aU (aw (af 0) aJ))) (aa (mC (.int 6))))))
  (aN (mC .non))
  aY)
  (av (bj (cb (aa (mGx true [1] (df (aC 0)) (gN 1) dw (ae (dIn true) (af 1) (aa (mC (.str "0123456789")))))))
  (aN (mC .non))
  aY)
  (av (bj (eu (ao (ae (aG false) (aa (ae dIx (af 0) (aa (mC (.int 0))))) (aa (mC (.str "0"))))) (ao (ae dGt (aa (mBi aU (aw (af 0) aJ))) (aa (mC (.int 1))))))
  (aN (mC .non))
  aY)
  (aN (mBi gR (aw (af 0) aJ))))))
theorem qi {c : Pc} (T : Txt c) {Cc Pp : Addr} (hP : bp c.cl Pp) : BV (c.z 2 d6 (defScope de) (some (Cc, Pp))) (defBody de) c9 :=
  (au (bu (fR (j6 (fun _ _ => op_le) (fun _ _ => op_le) cM cM (ab ah) (ab (br (fun _ h => cx h) cu (by rfl) T.b_len (by decide +kernel) (aK (lvv 0) aW))) (ab (jW (by rfl) (by exact T.c_MOST_FIGURES)))))
  (az (aL cO))
  bo)
  (au (bu (eN (ab (jI (own := ([("sign", 1)] : List (Str × Nat))) (k := 0) rfl (by show 0 + 2 ≤ 2; decide) (by rfl) T.b_any (hi := (jG (evv 0))) (ok := (blkOk_by (N := d6) (sc := defScope de) (own := ([("sign", 1)] : List (Str × Nat))) (by decide +kernel))) (hsc := by decide +kernel) (hg := (gvn 1)) (ht := jF) (he := (eU (fun _ h => fP h) fC (lvv 1) (ab (dk (by rfl) (by exact T.c_FIGURES))) (by rfl))) (hP := hP))))
  (az (aL cO))
  bo)
  (au (bu ((jJ (bf (fun _ h => or_eq h) dh (ab (ba (lvv 0) (ab ah))) (ab aR) (nomark _)) (iK (bf (fun _ _ => op_gt) cM (ab (br (fun _ h => cx h) cu (by rfl) T.b_len (by decide +kernel) (aK (lvv 0) aW))) (ab ah) (nomark _))))).tv
  (az (aL cO))
  bo)
  (az (aL (bH (fun _ _ => kY) lj (by rfl) T.b_int (by decide +kernel) (aK (lvv 0) aW)))))))
theorem p9 {c : Pc} {f : Addr} {fd : FuncData} (T : Txt c) {Cc Pp : Addr} (hP : bp c.cl Pp) (hco : fd.code = .ref Cc) (hTB : GxR.TabB c.base c.mg Cc Pp) (F : Fun c.K "read_number" "read_number" de f fd) (hm : c.mg "read_number" = some (.ref f)) : FnC c 3 "read_number" d6 1 c9 :=
 ⟨f, fd, ["text"], cf (me := some (Cc, Pp)) F n7 (qi T hP) (fun c1 P1 e => by cases e; exact ⟨hco, hTB, hP⟩), hm, F.kp, F.binds (ps := ["text"]) fun _ _ _ _ _ _ us hl => match us, hl with | [_], _ => rfl⟩
abbrev dC : Stmt := top 7
abbrev b7 : List Str := ["line", "parts", "word", "robot"]
theorem n0 : FnScope b7 ["line"] (defScope dC) := ⟨rfl, rfl, rfl, by decide +kernel, rfl, by decide +kernel, by decide +kernel⟩
def bL : MS :=
  (av (aP 1 (mM1 eQ (aC 0) (mC (.str " "))))
  (av (aP 2 (ae dIx (af 1) (aa (mC (.int 0)))))
  (av (bj (ao (ae (aG false) (af 2) (aa (mC (.str "order")))))
  (aN (aj dX 1 cC (aD (mSl hU (af 1) (ck (mC (.int 1))) cy) aB)))
  aY)
  (av (bj (mOr (ao (ae (dIn true) (af 2) (aa (bK (ai (mC (.str "go")) (ai (mC (.str "fail")) (ai (mC (.str "tow")) aZ))))))) (ao (ae (aG true) (aa (mBi aU (aw (af 1) aJ))) (aa (mC (.int 2))))))
  (aN (mC .non))
  aY)
  (av (aP 3 (aj d6 1 c9 (aD (ae dIx (af 1) (aa (mC (.int 1)))) aB)))
  (aN (mIf (ao (ae (dIs false) (af 3) (aa (mC .non)))) (mC .non) (bK (ai (aC 2) (ai (aC 3) aZ))))))))))
theorem qh {c : Pc} (T : Txt c) (G_zc : FnC c 3 "read_order" dX 1 cC) (G_zb : FnC c 3 "read_number" d6 1 c9) : BV (c.z 3 b7 (defScope dC)) (defBody dC) bL :=
  (au (sva 1 (jN (evv 0) aR).ev)
  (au (sva 2 (ba (lvv 1) (ab ah)))
  (au (bu (bf (fun _ h => or_eq h) dh (lvv 2) (ab aR) (nomark _))
  (az (aL (aV (G_zc.z (by decide)) (by rfl) (aX (m9 (lvv 1) (cW ah) cS).ev bc))))
  bo)
  (au (bu ((gM (bf (fun _ h => fP h) fC (lvv 2) (ab (eV (aH aR (aH aR (aH aR bM))))) (by rfl)) (fE (bf (fun _ h => f9 h) fF (ab (br (fun _ h => cx h) cu (by rfl) T.b_len (by decide +kernel) (aK (lvv 1) aW))) (ab ah) (nomark _))))).tv
  (az (aL cO))
  bo)
  (au (sva 3 (aV (G_zb.z (by decide)) (by rfl) (aX (ba (lvv 1) (ab ah)) bc)))
  (az (aL (nM (bf (fun _ _ => op_isN) nW (lvv 3) (ab cO) (nomark _)) cO (eV (aH (evv 2) (aH (evv 3) bM)))))))))))
theorem pO {c : Pc} {f : Addr} {fd : FuncData} (T : Txt c) (F : Fun c.K "read_event" "read_event" dC f fd) (hm : c.mg "read_event" = some (.ref f)) (G_zc : FnC c 3 "read_order" dX 1 cC) (G_zb : FnC c 3 "read_number" d6 1 c9) : FnC c 4 "read_event" b7 1 bL :=
 ⟨f, fd, ["line"], cf F n0 (qh T G_zc G_zb), hm, F.kp, F.binds (ps := ["line"]) fun _ _ _ _ _ _ us hl => match us, hl with | [_], _ => rfl⟩
abbrev dv : Stmt := top 16
abbrev eJ : List Str := ["box", "line", "signs", "at", "sign", "kind"]
theorem nK : FnScope eJ ["box", "line"] (defScope dv) := ⟨rfl, rfl, rfl, by decide +kernel, rfl, by decide +kernel, by decide +kernel⟩
def eA : MS :=
  (av (aP 2 (mC (.str " 0019aAZ[oder.g-")))
  (av (aP 3 (ae bU (aa (mBi bP (aw (aa (aj bE 2 bA (cIo 0 (aD (mC (.int 900)) aB)))) aJ))) (aa (ae aT (aa (mBi aU (aw (af 1) aJ))) (aa (mC (.int 1)))))))
  (av (aP 4 (ae gm (af 2) (aa (aj bE 2 bA (cIo 0 (aD (mC (.int 16)) aB))))))
  (av (aP 5 (aj bE 2 bA (cIo 0 (aD (mC (.int 4)) aB))))
  (eh (dH 5 0) (aN (ae aT (aa (ae aT (aa (mSl d7 (af 1) cy (ck (aC 3)))) (af 4))) (aa (mSl d7 (af 1) (ck (aC 3)) cy))))
  (eh (dH 5 1) (aN (ae aT (aa (mSl d7 (af 1) cy (ck (aC 3)))) (aa (mSl d7 (af 1) (ck (ae aT (af 3) (aa (mC (.int 1))))) cy))))
  (eh (dH 5 2) (aN (ae aT (aa (ae aT (aa (mSl d7 (af 1) cy (ck (aC 3)))) (af 4))) (aa (mSl d7 (af 1) (ck (ae aT (af 3) (aa (mC (.int 1))))) cy))))
  (fU 1 4 " "))))))))
theorem pM {c : Pc} (T : Txt c) (G_zh : FnC c 1 "_law_draw" bE 2 bA) : BV (c.z 1 eJ (defScope dv)) (defBody dv) eA :=
  (j7 (l5 (i := 2) rfl (by first | exact Or.inr rfl | exact Or.inl ⟨rfl, Or.inl rfl⟩ | exact Or.inl ⟨rfl, Or.inr rfl⟩))
  (jZ (nC (sva 3 (aF (fun _ _ => op_mod) c7 (ab (bH (fun _ _ => cR) cB (by rfl) T.b_int (by decide +kernel) (aK (ab (aV (G_zh.z (by decide)) (by rfl) (cY (i := 0) rfl (by first | exact Or.inl rfl | exact Or.inr (Or.inl rfl) | exact Or.inr (Or.inr rfl)) (aX ah bc)))) aW))) (ab (aF (fun _ _ => a9) a8 (ab (br (fun _ h => cx h) cu (by rfl) T.b_len (by decide +kernel) (aK (lvv 1) aW))) (ab ah))))))
  (l6 (i := 4) rfl rfl (lvv 2) (ab (aV (G_zh.z (by decide)) (by rfl) (cY (i := 0) rfl (by first | exact Or.inl rfl | exact Or.inr (Or.inl rfl) | exact Or.inr (Or.inr rfl)) (aX ah bc))))
  (ka (i := 5) (j := 0) (G_zh.z (by decide)) (by rfl) rfl rfl rfl (by first | exact Or.inl rfl | exact Or.inr (Or.inl rfl) | exact Or.inr (Or.inr rfl)) (by decide)
  (ij (j := 5) rfl (by first | exact Or.inl rfl | exact Or.inr (Or.inl rfl) | exact Or.inr (Or.inr rfl)) (az (aL (aF (fun _ _ => a9) a8 (ab (aF (fun _ _ => a9) a8 (ab (ef (lvv 1) cS (cW (evv 3)))) (lvv 4))) (ab (ef (lvv 1) (cW (evv 3)) cS)))))
  (ij (j := 5) rfl (by first | exact Or.inl rfl | exact Or.inr (Or.inl rfl) | exact Or.inr (Or.inr rfl)) (az (aL (aF (fun _ _ => a9) a8 (ab (ef (lvv 1) cS (cW (evv 3)))) (ab (ef (lvv 1) (cW (aF (fun _ _ => a9) a8 (lvv 3) (ab ah))) cS)))))
  (ij (j := 5) rfl (by first | exact Or.inl rfl | exact Or.inr (Or.inl rfl) | exact Or.inr (Or.inr rfl)) (az (aL (aF (fun _ _ => a9) a8 (ab (aF (fun _ _ => a9) a8 (ab (ef (lvv 1) cS (cW (evv 3)))) (lvv 4))) (ab (ef (lvv 1) (cW (aF (fun _ _ => a9) a8 (lvv 3) (ab ah))) cS)))))
  (jQ (il := 1) (ix := 4) T.booked rfl (by first | exact Or.inl rfl | exact Or.inr (Or.inl rfl) | exact Or.inr (Or.inr rfl)) rfl rfl))))))))
theorem pI {c : Pc} {f : Addr} {fd : FuncData} (T : Txt c) (F : Fun c.K "_law_text" "_law_text" dv f fd) (hm : c.mg "_law_text" = some (.ref f)) (G_zh : FnC c 1 "_law_draw" bE 2 bA) : FnC c 2 "_law_text" eJ 2 eA :=
 ⟨f, fd, ["box", "line"], cf F nK (pM T G_zh), hm, F.kp, F.binds (ps := ["box", "line"]) fun _ _ _ _ _ _ us hl => match us, hl with | [_, _], _ => rfl⟩
abbrev cT : Stmt := top 17
abbrev kj : List Str := ["script", "box", "turn", "event", "line", "text", "found"]
theorem oq : FnScope kj ["script"] (defScope cT) := ⟨rfl, rfl, rfl, by decide +kernel, rfl, by decide +kernel, by decide +kernel⟩
def jc : MS :=
  (av (ek 1 (cw dZ 3 dY (aD (aC 0) (aD (mC (.int 0)) (aD (mC (.int 8)) aB)))))
  (av (cF (iR1 (ai (mC (.int 6)) aZ)) (gN 2)
  (av (aP 3 (aj fo 1 eZ (cIo 1 aB)))
  (av (aP 4 (aj dJ 1 da (cz 3 aB)))
  (av (bj (mOr (b9 (cb (aa (aj cN 2 cL (aD (aj eP 1 et (cz 3 aB)) (aD (aC 4) aB)))))) (b9 (cb (aa (aj cN 2 cL (aD (aj b7 1 bL (aD (aC 4) aB)) (cz 3 aB)))))))
  (aN (mC (.bl false)))
  aY)
  (av (aP 5 (aj eJ 2 eA (cIo 1 (aD (aC 4) aB))))
  (av (aP 6 (aj b7 1 bL (aD (aC 5) aB)))
  (bj (ao (ae (dIs true) (af 6) (aa (mC .non))))
  (av (bj (mOr (b9 (cb (aa (mBi gv (aw (af 6) (aw (aa (mC (.typ "tuple"))) aJ)))))) (ao (ae (dIn true) (aa (ae dIx (af 6) (aa (mC (.int 0))))) (aa (bw (ai (mC (.str "order")) (ai (mC (.str "go")) (ai (mC (.str "fail")) (ai (mC (.str "tow")) aZ)))))))))
  (aN (mC (.bl false)))
  aY)
  (bj (mOr (ao (ae (aG true) (aa (aj dJ 1 da (cz 6 aB))) (af 5))) (ao (ae (aG true) (aa (mBi aU (aw (af 6) aJ))) (aa (ae aT (aa (mC (.int 2))) (aa (mBi bP (aw (aa (ae (aG false) (aa (ae dIx (af 6) (aa (mC (.int 0))))) (aa (mC (.str "order"))))) aJ))))))))
  (aN (mC (.bl false)))
  aY))
  (bj (ao (ae (aG false) (af 5) (af 4)))
  (aN (mC (.bl false)))
  aY))))))))
  (aN (mC (.bl true)))))
theorem pF {c : Pc} (T : Txt c) (G_zk : FnC c 2 "_law_box" dZ 3 dY) (G_ze : FnC c 2 "_law_drawn" fo 1 eZ) (G_zi : FnC c 1 "_law_line" dJ 1 da) (G_zf : FnC c 1 "_law_same" cN 2 cL) (G_za : FnC c 1 "write_event" eP 1 et) (G_zd : FnC c 4 "read_event" b7 1 bL) (G_zg : FnC c 2 "_law_text" eJ 2 eA) : BV (c.z 4 kj (defScope cT)) (defBody cT) jc :=
  (au (saf 1 ((lg (G_zk.z (by decide)) (by rfl) (aX (evv 0) (aX ah (aX ah bc))))))
  (au (fV (gu (by rfl) T.b_range (aH ah bM)) (gvn 2)
  (au (sva 3 (aV (G_ze.z (by decide)) (by rfl) (cY (i := 1) rfl (by first | exact Or.inl rfl | exact Or.inr (Or.inl rfl) | exact Or.inr (Or.inr rfl)) bc)))
  (au (sva 4 (aV (G_zi.z (by decide)) (by rfl) (fH (i := 3) rfl (by first | exact Or.inl rfl | exact Or.inr (Or.inl rfl) | exact Or.inr (Or.inr rfl)) bc)))
  (au (bu ((gM (fR (eN (ab (aV (G_zf.z (by decide)) (by rfl) (aX (aV (G_za.z (by decide)) (by rfl) (fH (i := 3) rfl (by first | exact Or.inl rfl | exact Or.inr (Or.inl rfl) | exact Or.inr (Or.inr rfl)) bc)) (aX (evv 4) bc)))))) (fE (fR (eN (ab (aV (G_zf.z (by decide)) (by rfl) (aX (aV (G_zd.z (by decide)) (by rfl) (aX (evv 4) bc)) (fH (i := 3) rfl (by first | exact Or.inl rfl | exact Or.inr (Or.inl rfl) | exact Or.inr (Or.inr rfl)) bc))))))))).tv
  (az (aL gb))
  bo)
  (au (sva 5 (aV (G_zg.z (by decide)) (by rfl) (cY (i := 1) rfl (by first | exact Or.inl rfl | exact Or.inr (Or.inl rfl) | exact Or.inr (Or.inr rfl)) (aX (evv 4) bc))))
  (au (sva 6 (aV (G_zd.z (by decide)) (by rfl) (aX (evv 5) bc)))
  (az (bu (bf (fun _ _ => op_notN) ki (lvv 6) (ab cO) (nomark _))
  (au (bu ((gM (fR (eN (ab (br (fun _ h => mM h) l8 (by rfl) T.b_isinstance (by decide +kernel) (aK (lvv 6) (aK (ab (nJ (by rfl) T.b_tuple (by decide +kernel))) aW)))))) (fE (bf (fun _ h => fP h) fC (ab (ba (lvv 6) (ab ah))) (ab (eI (aH aR (aH aR (aH aR (aH aR bM))))).ev) (by rfl))))).tv
  (az (aL gb))
  bo)
  (az (bu ((gM (bf (fun _ h => f9 h) fF (ab (aV (G_zi.z (by decide)) (by rfl) (fH (i := 6) rfl (by first | exact Or.inl rfl | exact Or.inr (Or.inl rfl) | exact Or.inr (Or.inr rfl)) bc))) (lvv 5) (nomark _)) (fE (bf (fun _ h => f9 h) fF (ab (br (fun _ h => cx h) cu (by rfl) T.b_len (by decide +kernel) (aK (lvv 6) aW))) (ab (aF (fun _ _ => a9) a8 (ab ah) (ab (bH (fun _ _ => cR) cB (by rfl) T.b_int (by decide +kernel) (aK (ab (eU (fun _ h => or_eq h) dh (ab (ba (lvv 6) (ab ah))) (ab aR) (nomark _))) aW))))) (nomark _))))).tv
  (az (aL gb))
  bo)))
  (az (bu (bf (fun _ h => or_eq h) dh (lvv 5) (lvv 4) (nomark _))
  (az (aL gb))
  bo))))))))))
  (az (aL gb))))
end Law
namespace Law
open PySem L2 Q
def bt (d : D) : Prop := ∃ (ds : List Int) (p : Nat), d = .lst [.lst (ds.map .int), .int p]
theorem lM {b : D} {many : Int} (hb : bt b) (hm : 0 < many) : W bA [.io 0 b, .imm (.int many), .un] (eL 0 fun md d x => ∃ v : Nat, d = .int v ∧ (v : Int) < many ∧ bt x) := by
 obtain ⟨ds, p, rfl⟩ := hb
 unfold bA
 have m1 : ∀ x, bB (.int x) (.int 7) = some (.int (x * 7)) := fun x => mul_right (by decide) (by decide)
 simp -implicitDefEqProofs
 by_cases h : p < ds.length
 ·rw [if_pos h]
  simp -implicitDefEqProofs [List.getElem?_eq_getElem h, mod_int hm]
  have h1 : 0 ≤ ds[p] % many := Int.emod_nonneg _ (by omega)
  have h2 : ds[p] % many < many := Int.emod_lt_of_pos _ hm
  exact ⟨(ds[p] % many).toNat, by omega, by omega, ds, p + 1, rfl⟩
 ·rw [if_neg h]
  simp -implicitDefEqProofs [m1, mod_int hm]
  have h1 : 0 ≤ ((p : Int) * 7 + 3) % many := Int.emod_nonneg _ (by omega)
  have h2 : ((p : Int) * 7 + 3) % many < many := Int.emod_lt_of_pos _ hm
  exact ⟨(((p : Int) * 7 + 3) % many).toNat, by omega, by omega, ds, p + 1, rfl⟩
theorem bO {env : En} {i : Nat} {b : D} {a : ME} {many : Int} (hb : bt b) (hr : env[i]?.bind Sl.own? = some b) (ha : a env = some (.int many, env)) (hm : 0 < many) :
  ∃ (v : Nat) (x : D), (v : Int) < many ∧ bt x ∧ aj bE 2 bA (cIo i (aD a aB)) env = some (.int v, aI env i x) := by
 obtain ⟨md, d, x, ⟨v, rfl, h1, h2⟩, h3, _⟩ := gh (N := bE) (np := 2) (mf := bA) (a := cIo i (aD a aB)) (env := env) (e1 := env) (as := [.io i, .imm (.int many)]) (ss := [.io 0 b, .imm (.int many)]) (i := i) (j := 0)
  (by simp -implicitDefEqProofs [hr, ha]) (by simp -implicitDefEqProofs [ay]) (by simp -implicitDefEqProofs [bN]) (by simp -implicitDefEqProofs [ax]) rfl (by simp -implicitDefEqProofs [hr]) (lM hb hm)
 exact ⟨v, x, h1, h2, h3⟩
abbrev dI (ns : List Int) : List D := ns.map .int
theorem lH (ns : List Int) (k : Nat) : ∃ c : Int, res eF eR [.imm (.scr (dI ns)), .imm (.int k)] [] = some (.int c, []) := by
 obtain ⟨d, ds, ⟨⟨c, rfl⟩, rfl⟩, h⟩ := ik (N := eF) (mf := eR) (ss := [.imm (.scr (dI ns)), .imm (.int k)]) (js := []) (R := fun d ds => (∃ c : Int, d = .int c) ∧ ds = []) (by
  show W _ [.imm (.scr (dI ns)), .imm (.int k)] _
  unfold eR
  simp -implicitDefEqProofs
  by_cases h : k < ns.length
  ·simp -implicitDefEqProofs [h, List.getElem?_eq_getElem h]
  ·simp -implicitDefEqProofs [h])
 exact ⟨c, h⟩
theorem lK : gq (.int 10) (.int 18) = some (.int 1000000000000000000) := by
 have h : CPow 10 18 := by unfold CPow; omega
 show (if CPow 10 18 then some (D.int (10 ^ (18 : Int).toNat)) else none) = _
 rw [if_pos h]; rfl
theorem mO (c : Int) (k many : Nat) (hm : many ≤ 1000) : ∃ ns : List Int, ns.length ≤ many ∧ res eC eD [.imm (.int c), .imm (.int k), .imm (.int many)] [] = some (.lst (dI ns), []) := by
 have m1 : ∀ x, bB (.int 2) (.int x) = some (.int (2 * x)) := fun x => mul_left (by decide) (by decide)
 have m2 : ∀ x, bB (.int x) (.int 48271) = some (.int (x * 48271)) := fun x => mul_right (by decide) (by decide)
 have m3 : ∀ x, bB (.int x) (.int 69621) = some (.int (x * 69621)) := fun x => mul_right (by decide) (by decide)
 have m4 : ∀ x, bB (.int x) (.int 16807) = some (.int (x * 16807)) := fun x => mul_right (by decide) (by decide)
 have m5 : ∀ x, bB (.int 7) (.int x) = some (.int (7 * x)) := fun x => mul_left (by decide) (by decide)
 have o1 : ∀ x, bU (.int x) (.int 1000) = some (.int (x % 1000)) := fun x => mod_int (by decide)
 have o2 : ∀ x, bU (.int x) (.int 2147483647) = some (.int (x % 2147483647)) := fun x => mod_int (by decide)
 have v1 : ∀ x, ei (.int x) (.int 1000) = some (.int (x / 1000)) := fun x => iJ (by decide) (by decide)
 have v2 : ∀ x, ei (.int x) (.int 997) = some (.int (x / 997)) := fun x => iJ (by decide) (by decide)
 have mid : ∀ (c : Int) (s t : Sl), W (av (bj (ao (ae dGe (af 0) (aa (ae gq (aa (mC (.int 10))) (aa (mC (.int 18)))))))
  (av (cF (iR1 (ai (mC (.int 60)) aZ)) (gN 4)
  (bj (eu (ao (ae dGt (af 0) (aa (mC (.int 0))))) (ao (ae dLt (aa (mBi aU (aw (af 3) aJ))) (af 2))))
  (av (eG 3 (ae bU (aa (mBi bP (aw (af 0) aJ))) (aa (mC (.int 1000)))))
  (aP 0 (ae ei (af 0) (aa (mC (.int 1000))))))
  aY))
  (dR 3))
  aY)
  (av (aP 5 (ae bU (aa (mBi bP (aw (aa (ae aT (aa (ae aT (aa (ae bB (af 0) (aa (mC (.int 48271))))) (aa (ae bB (af 1) (aa (mC (.int 69621))))))) (aa (mC (.int 11))))) aJ))) (aa (mC (.int 2147483647)))))
  (av (cF (iR1 (ai (aC 2) aZ)) (gN 4)
  (av (aP 5 (ae bU (aa (mBi bP (aw (aa (ae aT (aa (ae aT (aa (ae bB (af 5) (aa (mC (.int 16807))))) (aa (ae bB (aa (mC (.int 7))) (af 4))))) (aa (mC (.int 1))))) aJ))) (aa (mC (.int 2147483647)))))
  (eG 3 (ae bU (aa (mBi bP (aw (aa (ae ei (af 5) (aa (mC (.int 997))))) aJ))) (aa (mC (.int 1000)))))))
  (dR 3)))) [.imm (.int c), .imm (.int k), .imm (.int many), .own (.lst []), s, t] (RtA [] fun _ d ds => (∃ ns : List Int, d = .lst (dI ns) ∧ ns.length ≤ many) ∧ ds = []) := fun c s t => by
  rw [aO, bS]
  have ht : ao (ae dGe (af 0) (aa (ae gq (aa (mC (.int 10))) (aa (mC (.int 18)))))) [.imm (.int c), .imm (.int k), .imm (.int many), .own (.lst []), s, t] = some (decide ((1000000000000000000 : Int) ≤ c), [.imm (.int c), .imm (.int k), .imm (.int many), .own (.lst []), s, t]) := by simp -implicitDefEqProofs [lK]
  rw [ht, ak]
  by_cases hc : (1000000000000000000 : Int) ≤ c
  ·rw [if_pos (by simpa using hc), aO]
   obtain ⟨P, hP⟩ := inv fun _ e => ∃ (ns : List Int) (c : Int) (s t : Sl), e = [.imm (.int c), .imm (.int k), .imm (.int many), .own (.lst (dI ns)), s, t] ∧ ns.length ≤ many
   refine gQ (ds := bW 0 60) (e0 := _) (hG (n := 60) rfl (by omega)) P (by rw [hP]; exact ⟨[], c, s, t, rfl, Nat.zero_le _⟩) ?_ ?_
   ·intro j d e hd h
    rw [hP] at h
    obtain ⟨ns, c, s, t, rfl, hl⟩ := h
    simp -implicitDefEqProofs at hd
    obtain ⟨hj, rfl⟩ := hd
    have e3 : ns.length < sizeLine := szL (by omega)
    by_cases hc : 0 < c
    ·by_cases hl2 : ns.length < many
     ·simp -implicitDefEqProofs [hc, hl2, e3, o1, v1]
      rw [hP]
      exact ⟨ns ++ [c % 1000], c / 1000, _, t, by simp -implicitDefEqProofs; rfl, by simp -implicitDefEqProofs; omega⟩
     ·simp -implicitDefEqProofs [hc, hl2]
      rw [hP]
      exact ⟨ns, c, _, t, rfl, hl⟩
    ·simp -implicitDefEqProofs [hc]
     rw [hP]
     exact ⟨ns, c, _, t, rfl, hl⟩
   ·intro e h
    rw [hP] at h
    obtain ⟨ns, c, s, t, rfl, hl⟩ := h
    simp -implicitDefEqProofs
    exact ⟨ns, rfl, hl⟩
  ·rw [if_neg (by simpa using hc), bI, aM]
   simp -implicitDefEqProofs [m2, m3, o2]
   obtain ⟨P, hP⟩ := inv fun j e => ∃ (ns : List Int) (s : Sl) (w : Int), e = [.imm (.int c), .imm (.int k), .imm (.int many), .own (.lst (dI ns)), s, .imm (.int w)] ∧ ns.length = j
   refine gQ (ds := bW 0 many) (e0 := _) (hG (n := many) rfl (by omega)) P (by rw [hP]; exact ⟨[], s, _, rfl, rfl⟩) ?_ ?_
   ·intro j d e hd h
    rw [hP] at h
    obtain ⟨ns, s, w, rfl, hl⟩ := h
    simp -implicitDefEqProofs at hd
    obtain ⟨hj, rfl⟩ := hd
    have e3 : ns.length < sizeLine := szL (by omega)
    simp -implicitDefEqProofs [e3, m4, m5, o1, o2, v2]
    rw [hP]
    exact ⟨ns ++ [_], _, _, by simp -implicitDefEqProofs; exact ⟨rfl, rfl, rfl⟩, by simp -implicitDefEqProofs; omega⟩
   ·intro e h
    rw [hP] at h
    obtain ⟨ns, s, w, rfl, hl⟩ := h
    simp -implicitDefEqProofs at hl
    simp -implicitDefEqProofs
    exact ⟨ns, rfl, by omega⟩
 obtain ⟨d, ds, ⟨⟨ns, rfl, hl⟩, rfl⟩, h⟩ := ik (N := eC) (mf := eD) (ss := [.imm (.int c), .imm (.int k), .imm (.int many)]) (js := []) (R := fun d ds => (∃ ns : List Int, d = .lst (dI ns) ∧ ns.length ≤ many) ∧ ds = []) (by
  show W _ [.imm (.int c), .imm (.int k), .imm (.int many), .un, .un, .un] _
  unfold eD
  rw [aO, jl, ow, ak]
  refine ⟨by simp, ?_⟩
  rw [aM]
  show W _ [.imm (.int c), .imm (.int k), .imm (.int many), .own (.lst []), .un, .un] _
  rw [aO, bS]
  have ht : ao (ae dLt (af 0) (aa (mC (.int 0)))) [.imm (.int c), .imm (.int k), .imm (.int many), .own (.lst []), .un, .un] = some (decide (c < 0), [.imm (.int c), .imm (.int k), .imm (.int many), .own (.lst []), .un, .un]) := by simp -implicitDefEqProofs
  rw [ht, ak]
  by_cases hc : c < 0
  ·rw [if_pos (by simpa using hc), bZ]
   have ha : ae gU (aa (mC (.int 1))) (aa (ae bB (aa (mC (.int 2))) (af 0))) [.imm (.int c), .imm (.int k), .imm (.int many), .own (.lst []), .un, .un] = some (.int (1 - 2 * c), [.imm (.int c), .imm (.int k), .imm (.int many), .own (.lst []), .un, .un]) := by simp -implicitDefEqProofs [m1]
   rw [ha, ak]
   exact ⟨by simp, mid _ _ _⟩
  ·rw [if_neg (by simpa using hc), bI]
   exact mid _ _ _)
 exact ⟨ns, hl, h⟩
theorem nE (ns : List Int) (last : Nat) (hl : last ≤ 100) : ∃ b, bt b ∧ dW dZ dY [.imm (.scr (dI ns)), .imm (.int 0), .imm (.int last)] [] = some (.new, b, []) := by
 obtain ⟨md, d, ds, ⟨rfl, hb, rfl⟩, h⟩ := iX (N := dZ) (mf := dY) (ss := [.imm (.scr (dI ns)), .imm (.int 0), .imm (.int last)]) (js := []) (R := fun md d ds => md = .new ∧ bt d ∧ ds = []) (by
  show W _ [.imm (.scr (dI ns)), .imm (.int 0), .imm (.int last), .un, .un] _
  unfold dY
  simp -implicitDefEqProofs
  obtain ⟨P, hP⟩ := inv fun j e => ∃ (xs : List Int) (s : Sl), e = [.imm (.scr (dI ns)), .imm (.int 0), .imm (.int last), .imm (.lst (dI xs)), s] ∧ xs.length ≤ 12 * j
  refine gQ (ds := bW 0 last) (e0 := _) (mQ (k := 0) (n := last) rfl (by omega) (by omega)) P (by rw [hP]; exact ⟨[], .un, rfl, by simp⟩) ?_ ?_
  ·intro j d e hd h
   rw [hP] at h
   obtain ⟨xs, s, rfl, hx⟩ := h
   simp -implicitDefEqProofs at hd
   obtain ⟨hj, rfl⟩ := hd
   obtain ⟨c, c1⟩ := lH ns j
   obtain ⟨ys, hy, c2⟩ := mO c j 12 (by omega)
   have e3 : xs.length + ys.length ≤ sizeLine := szS (by omega)
   have e4 : hV (.lst (dI xs)) (.lst (dI ys)) = some (.lst (dI (xs ++ ys))) := by
    show (if (dI xs).length + (dI ys).length ≤ sizeLine then _ else _) = _
    rw [if_pos (by simpa using e3)]; show _ = some (D.lst (List.map D.int (xs ++ ys))); rw [List.map_append]
   simp -implicitDefEqProofs [dA, c1, show res eC eD [.imm (.int c), .imm (.int j), .imm (.int 12)] [] = _ from c2, e4, -List.map_append]
   rw [hP]
   exact ⟨xs ++ ys, _, rfl, by simp; omega⟩
  ·intro e h
   rw [hP] at h
   obtain ⟨xs, s, rfl, hx⟩ := h
   simp -implicitDefEqProofs
   exact ⟨xs, 0, rfl⟩)
 exact ⟨d, hb, h⟩
end Law
namespace Q
open PySem L2 Builtin.Str
abbrev tx (l : List Nat) : Str := ⟨l.toArray⟩
abbrev cs (z : Str) : List Nat := z.cps.toList
@[simp] theorem c0 (l : List Nat) : (tx l).cps.toList = l := by simp [tx]
@[simp] theorem ja (z : Str) : tx z.cps.toList = z := by cases z; simp [tx]
@[simp] theorem aQ (l : List Nat) : (tx l).length = l.length := by simp [tx, Str.length]
theorem ir (a b : List Nat) : tx a ++ tx b = tx (a ++ b) := by
 show (⟨a.toArray ++ b.toArray⟩ : Str) = _
 simp [tx]
theorem d9 {a b : List Nat} : tx a = tx b ↔ a = b := by
 constructor
 ·intro h
  have : (tx a).cps.toList = (tx b).cps.toList := by rw [h]
  simpa using this
 ·rintro rfl; rfl
def cI (c : Nat) : List Nat → Nat → List Nat
 | [], _ => []
 | a :: r, k => if a = c then k :: cI c r (k + 1) else cI c r (k + 1)
theorem lB (x : Str) (c lim : Nat) : ∀ (l : List Nat) (k free : Nat) (acc : Array Nat), x.cps.toList.drop k = l → k ≤ x.length → free ≤ k → acc.size ≤ k → x.length < lim →
  (forIn (List.range' k (x.length + 1 - k)) (acc, free) (StrLaws.occBody x ⟨#[c]⟩ x.length lim)).run.fst.toList = acc.toList ++ cI c l k := by
 intro l
 induction l with
 | nil =>
  intro k free acc hd hk hf ha hl
  have hlen : x.cps.toList.length = x.length := di x
  have : k = x.length := by
   have := congrArg List.length hd
   simp only [List.length_drop, List.length_nil] at this
   omega
  subst this
  rw [Nat.add_sub_cancel_left]
  show (forIn [x.length] (acc, free) (StrLaws.occBody x ⟨#[c]⟩ x.length lim)).run.fst.toList = _
  rw [List.forIn_cons]
  unfold StrLaws.occBody
  rw [if_neg (by
   rintro ⟨⟨_, h1⟩, _⟩
   have : (⟨#[c]⟩ : Str).length = 1 := rfl
   omega)]
  simp [cI]
 | cons a r ih =>
  intro k free acc hd hk hf ha hl
  have hlen : x.cps.toList.length = x.length := di x
  have hk2 : k < x.length := by
   have := congrArg List.length hd
   simp only [List.length_drop, List.length_cons] at this
   omega
  have hd2 : x.cps.toList.drop (k + 1) = r := by rw [← List.drop_drop, hd]; rfl
  have hat : x.cps.toList[k]? = some a := by
   have : (x.cps.toList.drop k)[0]? = some a := by rw [hd]; rfl
   rw [List.getElem?_drop] at this
   simpa using this
  have hs := StrLaws.subAt_one x c k
  rw [hat] at hs
  have e : x.length + 1 - k = (x.length + 1 - (k + 1)) + 1 := by omega
  rw [e, List.range'_succ, List.forIn_cons]
  have hb : StrLaws.occBody x ⟨#[c]⟩ x.length lim k (acc, free) = if a = c then pure (ForInStep.yield (acc.push k, k + 1)) else pure (ForInStep.yield (acc, free)) := by
   unfold StrLaws.occBody
   by_cases hac : a = c
   ·have h := hs.mpr (by rw [hac])
    rw [if_pos ⟨⟨⟨by show acc.size < lim; omega, hf⟩, h.1⟩, h.2⟩, if_pos hac]
    rfl
   ·have h : ¬ (k + (⟨#[c]⟩ : Str).length ≤ x.length ∧ subAt x ⟨#[c]⟩ k = true) := fun z => hac (Option.some.inj (hs.mp z))
    rw [if_neg (fun z => h ⟨z.1.2, z.2⟩), if_neg hac]
  rw [hb]
  by_cases hac : a = c
  ·rw [if_pos hac]
   show (forIn (List.range' (k + 1) (x.length + 1 - (k + 1))) (acc.push k, k + 1) (StrLaws.occBody x ⟨#[c]⟩ x.length lim)).run.fst.toList = _
   rw [ih (k + 1) (k + 1) (acc.push k) hd2 (by omega) (by omega) (by simp; omega) hl]
   simp [cI, hac]
  ·rw [if_neg hac]
   show (forIn (List.range' (k + 1) (x.length + 1 - (k + 1))) (acc, free) (StrLaws.occBody x ⟨#[c]⟩ x.length lim)).run.fst.toList = _
   rw [ih (k + 1) free acc hd2 (by omega) (by omega) (by omega) hl]
   simp [cI, hac]
theorem lS (x : Str) (c : Nat) : occurrences x ⟨#[c]⟩ 0 x.length (x.length + 1) = cI c x.cps.toList 0 := by
 rw [StrLaws.occ_eq]
 have := lB x c (x.length + 1) x.cps.toList 0 0 #[] rfl (Nat.zero_le _) (Nat.le_refl _) (by simp) (by omega)
 simpa using this
def aA (c : Nat) : List Nat → List (List Nat)
 | [] => [[]]
 | a :: r => if a = c then [] :: aA c r else match aA c r with
  | h :: t => (a :: h) :: t
  | [] => [[a]]
def cg (p : List Nat) : List (List Nat) → List (List Nat)
 | h :: t => (p ++ h) :: t
 | [] => [p]
theorem bT (c : Nat) : ∀ l, aA c l ≠ []
 | [] => by simp [aA]
 | a :: r => by
  unfold aA
  split
  ·simp
  ·split <;> simp
theorem fj {L : List (List Nat)} (h : L ≠ []) : cg [] L = L := by cases L with
 | nil => exact absurd rfl h
 | cons a r => simp [cg]
theorem iC (p q : List Nat) {L : List (List Nat)} (h : L ≠ []) : cg (p ++ q) L = cg p (cg q L) := by cases L with
 | nil => exact absurd rfl h
 | cons a r => simp [cg]
theorem gE (x : Str) (a b : Nat) : (strSub x a b).cps.toList = (x.cps.toList.take b).drop a := by
 unfold strSub
 simp [Array.toList_extract, List.extract_eq_drop_take, List.drop_take]
theorem jL (x : Str) (c : Nat) : ∀ (l : List Nat) (a k : Nat), x.cps.toList.drop k = l → a ≤ k → k ≤ x.length →
  (StrLaws.partsFrom x 1 a (cI c l k)).map (fun z => z.cps.toList) = cg ((x.cps.toList.take k).drop a) (aA c l) := by
 intro l
 induction l with
 | nil =>
  intro a k hd ha hk
  have hlen : x.cps.toList.length = x.length := di x
  have : k = x.length := by
   have := congrArg List.length hd
   simp only [List.length_drop, List.length_nil] at this
   omega
  subst this
  simp only [cI, StrLaws.partsFrom, List.map_cons, List.map_nil, aA, cg, gE, List.append_nil]
 | cons b r ih =>
  intro a k hd ha hk
  have hlen : x.cps.toList.length = x.length := di x
  have hk2 : k < x.length := by
   have := congrArg List.length hd
   simp only [List.length_drop, List.length_cons] at this
   omega
  have hd2 : x.cps.toList.drop (k + 1) = r := by rw [← List.drop_drop, hd]; rfl
  have hat : x.cps.toList[k]? = some b := by
   have : (x.cps.toList.drop k)[0]? = some b := by rw [hd]; rfl
   rw [List.getElem?_drop] at this
   simpa using this
  have htk : x.cps.toList.take (k + 1) = x.cps.toList.take k ++ [b] := by rw [List.take_add_one, hat]; rfl
  by_cases hbc : b = c
  ·have h1 := ih (k + 1) (k + 1) hd2 (Nat.le_refl _) (by omega)
   have h2 : (x.cps.toList.take (k + 1)).drop (k + 1) = [] := by rw [List.drop_eq_nil_iff]; simp; omega
   rw [h2, fj (bT c r)] at h1
   simp only [cI, hbc, if_true, StrLaws.partsFrom, List.map_cons, aA, cg, List.append_nil, gE]
   rw [h1]
  ·have h1 := ih a (k + 1) hd2 (by omega) (by omega)
   have h2 : (x.cps.toList.take (k + 1)).drop a = (x.cps.toList.take k).drop a ++ [b] := by
    rw [htk, List.drop_append_of_le_length (by rw [List.length_take]; omega)]
   simp only [cI, hbc, if_false]
   rw [h1, h2, iC _ _ (bT c r)]
   congr 1
   simp only [aA, hbc, if_false]
   cases hs : aA c r with
   | nil => exact absurd hs (bT c r)
   | cons h t => rfl
theorem nr {L : List Str} {M : List (List Nat)} (h : L.map (fun z => z.cps.toList) = M) : L = M.map tx := by
 subst h
 rw [List.map_map]
 have : ((fun l => tx l) ∘ fun z : Str => z.cps.toList) = id := by funext z; simp
 show L = L.map ((fun l => tx l) ∘ fun z : Str => z.cps.toList)
 rw [this]; simp
theorem ft (x : Str) (c : Nat) : partsBetween x (cI c x.cps.toList 0) 1 = (aA c x.cps.toList).map tx := by
 rw [StrLaws.partsBetween_eq]
 refine nr ?_
 have := jL x c x.cps.toList 0 0 rfl (Nat.le_refl _) (Nat.zero_le _)
 simp only [List.take_zero, List.drop_nil] at this
 rw [this, fj (bT c _)]
theorem i3 {c : Nat} : ∀ {l : List Nat} {k : Nat}, cI c l k = [] → aA c l = [l] ∧ l.filter (fun a => decide (a ≠ c)) = l
 | [], _, _ => ⟨rfl, rfl⟩
 | a :: r, k, h => by
  unfold cI at h
  split at h
  ·cases h
  ·rename_i hac
   obtain ⟨h1, h2⟩ := i3 h
   refine ⟨?_, ?_⟩
   ·unfold aA
    rw [if_neg hac, h1]
   ·rw [List.filter_cons, if_pos (by simpa using hac), h2]
theorem j9 (x : Str) {c : Nat} (hc : c < 256) : Txt.split x ⟨#[c]⟩ = (aA c x.cps.toList).map tx := by
 unfold Txt.split
 rw [lS]
 have l1 : (⟨#[c]⟩ : Str).length = 1 := rfl
 have k1 : Builtin.Str.strKind ⟨#[c]⟩ = 1 := by unfold Builtin.Str.strKind; simp [hc]
 have k2 : 1 ≤ Builtin.Str.strKind x := by unfold Builtin.Str.strKind; split <;> (try split) <;> omega
 have k3 : decide (Builtin.Str.strKind x < Builtin.Str.strKind ⟨#[c]⟩) = false := by rw [k1]; simp; omega
 rw [k3, Bool.or_false]
 by_cases h0 : x.length < 1
 ·have hx : x.cps.toList = [] := List.eq_nil_of_length_eq_zero (by rw [di]; omega)
  rw [if_pos (by rw [l1]; simpa using h0), hx]
  show [x] = [tx []]
  rw [← hx, ja]
 ·rw [if_neg (by rw [l1]; simpa using h0)]
  split
  ·rename_i he
   have := (i3 (List.isEmpty_iff.mp he)).1
   rw [this]
   simp
  ·exact ft x c
def b0 (c : Nat) : List (List Nat) → List Nat
 | [] => []
 | [a] => a
 | a :: b :: r => a ++ c :: b0 c (b :: r)
theorem ib {c x : Nat} (hx : ¬ x = c) {r h : List Nat} {t : List (List Nat)} (e : aA c r = h :: t) : aA c (x :: r) = (x :: h) :: t := by
 rw [aA, if_neg hx, e]
theorem jA (c : Nat) (a : List Nat) (ha : c ∉ a) (l : List Nat) : aA c (a ++ c :: l) = a :: aA c l := by
 induction a with
 | nil => simp [aA]
 | cons x a ih =>
  have hx : ¬ x = c := fun e => ha (by simp [e])
  exact ib hx (ih fun h => ha (List.mem_cons_of_mem _ h))
theorem jh (c : Nat) (a : List Nat) (ha : c ∉ a) : aA c a = [a] := by
 induction a with
 | nil => rfl
 | cons x a ih =>
  have hx : ¬ x = c := fun e => ha (by simp [e])
  exact ib hx (ih fun h => ha (List.mem_cons_of_mem _ h))
theorem split_join (c : Nat) : ∀ L : List (List Nat), L ≠ [] → (∀ a ∈ L, c ∉ a) → aA c (b0 c L) = L
 | [], h, _ => absurd rfl h
 | [a], _, h => jh c a (h a (by simp))
 | a :: b :: r, _, h => by
  show aA c (a ++ c :: b0 c (b :: r)) = _
  rw [jA c a (h a (by simp)), split_join c (b :: r) (by simp) fun x hx => h x (List.mem_cons_of_mem _ hx)]
end Q
namespace Law
open PySem L2 Q
def fg (n : Nat) : List Nat := (Nat.toDigits 10 n).map Char.toNat
theorem fe (n : Nat) : Str.ofString (toString (n : Int)) = tx (fg n) := by
 rw [← ja (Str.ofString (toString (n : Int)))]
 congr 1
 exact PySem.W.KIN.signs_num n
theorem gY {n c : Nat} (h : c ∈ fg n) : 48 ≤ c ∧ c ≤ 57 := by
 unfold fg at h
 obtain ⟨ch, hch, e⟩ := List.mem_map.mp h
 have r := PyProof.Rows.digit_range (Nat.isDigit_of_mem_toDigits (by decide) (by decide) hch)
 rw [← e]; exact r
theorem mn : ∀ d : Nat, d < 10 → d ≠ 0 → (Nat.digitChar d).toNat ≠ 48 := by decide
theorem iU (n : Nat) : ∃ c r, fg n = c :: r ∧ (n ≠ 0 → c ≠ 48) ∧ (n < 10 → r = []) := by
 induction n using Nat.strongRecOn with
 | _ n ih =>
  by_cases h : n < 10
  ·refine ⟨(Nat.digitChar n).toNat, [], ?_, fun hn => mn n h hn, fun _ => rfl⟩
   unfold fg; rw [Nat.toDigits_of_lt_base h]; rfl
  ·have hm : n % 10 < 10 := Nat.mod_lt n (by decide)
   have t : Nat.toDigits 10 (n / 10) ++ Nat.toDigits 10 (n % 10) = Nat.toDigits 10 (10 * (n / 10) + n % 10) := Nat.toDigits_append_toDigits (by decide) (by omega) hm
   rw [Nat.div_add_mod] at t
   obtain ⟨c, r, h1, h2, _⟩ := ih (n / 10) (by omega)
   refine ⟨c, r ++ (Nat.toDigits 10 (n % 10)).map Char.toNat, ?_, fun _ => h2 (by omega), fun z => by omega⟩
   unfold fg at h1 ⊢
   rw [← t, List.map_append, h1]; rfl
theorem eM {n : Nat} (h : n < 1000000) : 1 ≤ (fg n).length ∧ (fg n).length ≤ 6 := by
 obtain ⟨c, r, h1, _⟩ := iU n
 refine ⟨by rw [h1]; simp, ?_⟩
 unfold fg
 rw [List.length_map]
 exact PyProof.Rows.digits10_le (k := 6) (by decide) (by omega)
theorem mr {n : Nat} (h : n < 1000000) : PySem.intText? (tx (fg n)) = some (n : Int) := by
 rw [← fe]
 exact PySem.W.KIN.num_reads (by omega) (by omega)
theorem mY (neg : Bool) (c : Nat) : dIn neg (.str (tx [c])) (.str "0123456789") = some (.bl (if neg then !decide (48 ≤ c ∧ c ≤ 57) else decide (48 ≤ c ∧ c ≤ 57))) := by
 have e : ("0123456789" : Str) = tx [48, 49, 50, 51, 52, 53, 54, 55, 56, 57] := rfl
 have := iG neg c (tx [48, 49, 50, 51, 52, 53, 54, 55, 56, 57])
 rw [c0] at this
 have h2 : decide (c ∈ [48, 49, 50, 51, 52, 53, 54, 55, 56, 57]) = decide (48 ≤ c ∧ c ≤ 57) := by
  rw [decide_eq_decide]
  simp
  omega
 rw [h2] at this
 rw [e, this]
theorem iZ (l : List Nat) : mGx true [1] (df (aC 0)) (gN 1) dw (ae (dIn true) (af 1) (aa (mC (.str "0123456789")))) [.imm (.str (tx l)), .un] = some (.bl (l.any fun c => !decide (48 ≤ c ∧ c ≤ 57)), [.imm (.str (tx l)), .un]) := by
 have hs : signs (tx l) = l.map fun c => .str (tx [c]) := by unfold signs; rw [c0]
 have inf := mY true
 obtain ⟨SF, hSF⟩ : ∃ S : Str, ("0123456789" : Str) = S := ⟨_, rfl⟩
 rw [hSF] at inf ⊢
 obtain ⟨e2, h1, ⟨t, rfl⟩⟩ := kn (stop := true) (vs := [1]) (mi := df (aC 0)) (gf := gN 1) (mt := dw) (me := ae (dIn true) (af 1) (aa (mC (.str SF)))) (env := [.imm (.str (tx l)), .un]) (e0 := [.imm (.str (tx l)), .un]) (ds := signs (tx l)) (by simp -implicitDefEqProofs) rfl
  (fun i => (l[i]?.map fun c => !decide (48 ≤ c ∧ c ≤ 57)).getD false) (fun e => ∃ t, e = [.imm (.str (tx l)), t]) ⟨_, rfl⟩ (by
   rintro i d e hd ⟨t, rfl⟩
   rw [hs, List.getElem?_map] at hd
   obtain ⟨c, hc, rfl⟩ := Option.map_eq_some_iff.mp hd
   refine ⟨[.imm (.str (tx l)), .imm (.str (tx [c]))], true, [.imm (.str (tx l)), .imm (.str (tx [c]))], by simp -implicitDefEqProofs [bV], rfl, fun _ => ⟨[.imm (.str (tx l)), .imm (.str (tx [c]))], ?_, ⟨_, rfl⟩⟩, fun z => by cases z⟩
   rw [hc]
   simp -implicitDefEqProofs only [dz, cU, bY, c8, List.getElem?_cons_succ, List.getElem?_cons_zero, Option.bind_some, Option.map_some, dm, get_slot, bX, inf c, if_true, Option.getD_some])
 have hbk : cZ [.imm (.str (tx l)), .un] (bV [.imm (.str (tx l)), t] [1]) [1] = [.imm (.str (tx l)), .un] := by simp -implicitDefEqProofs [cZ, bV]
 rw [h1, hbk, hs, List.length_map]
 congr 2
 have : (∃ i, i < l.length ∧ (l[i]?.map fun c => !decide (48 ≤ c ∧ c ≤ 57)).getD false = true) ↔ l.any (fun c => !decide (48 ≤ c ∧ c ≤ 57)) = true := by
  rw [List.any_eq_true]
  constructor
  ·rintro ⟨i, hi, h⟩
   rw [List.getElem?_eq_getElem hi] at h
   exact ⟨l[i], List.getElem_mem hi, by simpa using h⟩
  ·rintro ⟨c, hc, h⟩
   obtain ⟨i, hi, e⟩ := List.getElem_of_mem hc
   exact ⟨i, hi, by rw [List.getElem?_eq_getElem hi, e]; simpa using h⟩
 by_cases h : l.any (fun c => !decide (48 ≤ c ∧ c ≤ 57)) = true
 ·rw [if_pos (this.mpr h), h]
 ·rw [if_neg (fun z => h (this.mp z))]
  cases hb : l.any (fun c => !decide (48 ≤ c ∧ c ≤ 57)) with
  | true => exact absurd hb h
  | false => rfl
theorem jt {n : Nat} (h : n < 1000000) : res d6 c9 [.imm (.str (tx (fg n)))] [] = some (.int (n : Nat), []) := by
 refine bR ?_
 unfold c9
 obtain ⟨h1, h2⟩ := eM h
 have hi := mr h
 obtain ⟨c, r, hf, hc0, hr⟩ := iU n
 have hd : ∀ x ∈ fg n, 48 ≤ x ∧ x ≤ 57 := fun x hx => gY hx
 have ha := iZ (fg n)
 have hany : (fg n).any (fun c => !decide (48 ≤ c ∧ c ≤ 57)) = false := by
  rw [List.any_eq_false]
  intro x hx
  have := hd x hx
  simp [this]
 rw [hany] at ha
 have ix0 : dIx (.str (tx (fg n))) (.int 0) = some (.str (tx [c])) := by
  have hlt : 0 < (tx (fg n)).cps.toList.length := by rw [c0]; omega
  have := eK (z := tx (fg n)) (n := 0) (szS (by rw [aQ]; omega)) hlt
  have e : (tx (fg n)).cps.toList[0] = c := by
   have h3 : (tx (fg n)).cps.toList[0]? = some c := by rw [c0, hf]; rfl
   rw [List.getElem?_eq_getElem hlt] at h3
   exact Option.some.inj h3
  rw [e] at this
  exact this
 have e0 : ("0" : Str) = tx [48] := rfl
 have dc : decide (tx [c] = tx [48]) = decide (c = 48) := by
  by_cases h : c = 48
  ·rw [h, mV rfl, mV rfl]
  ·rw [nB h, nB (fun z => h (by have := d9.mp z; simpa using this))]
 have zl : (fg n).length ≤ sizeLine := szS (by omega)
 have zs : (fg n).length ≤ 640 := by omega
 have T1 : b9 (ao (cK dLe dLe (aa (mC (.int 1))) (aa (mBi aU (aw (af 0) aJ))) (aa (mC (.int 6))))) [.imm (.str (tx (fg n))), .un] = some (false, [.imm (.str (tx (fg n))), .un]) := by
  have c1 : (1 : Int) ≤ ((fg n).length : Nat) := by omega
  have c2 : (((fg n).length : Nat) : Int) ≤ 6 := by omega
  simp -implicitDefEqProofs [zl, c1, c2]
 have T2 : cb (aa (mGx true [1] (df (aC 0)) (gN 1) dw (ae (dIn true) (af 1) (aa (mC (.str "0123456789")))))) [.imm (.str (tx (fg n))), .un] = some (false, [.imm (.str (tx (fg n))), .un]) := by
  simp -implicitDefEqProofs only [iq, bY, ha, Option.map_some, Option.bind_some, bX, ia]
 have T3 : eu (ao (ae (aG false) (aa (ae dIx (af 0) (aa (mC (.int 0))))) (aa (mC (.str "0"))))) (ao (ae dGt (aa (mBi aU (aw (af 0) aJ))) (aa (mC (.int 1))))) [.imm (.str (tx (fg n))), .un] = some (false, [.imm (.str (tx (fg n))), .un]) := by
  rw [e0]
  by_cases hc : c = 48
  ·have hn : n = 0 := Classical.byContradiction fun z => hc0 z hc
   have hl1 : (fg n).length = 1 := by rw [hf, hr (by omega)]; rfl
   have c2 : ¬ (1 : Int) < (((fg n).length : Nat) : Int) := by omega
   simp -implicitDefEqProofs only [iu, dj, dz, fY, dq, ec, cJ, c6, cU, bY, c8, List.getElem?_cons_zero, Option.bind_some, Option.map_some, dm, get_slot, bX, ix0, ed, dc, hc, decide_true, Bool.false_eq_true, if_false, if_true, len_str, aQ, zl, iI, c2, decide_false]
  ·simp -implicitDefEqProofs only [iu, dj, dz, cU, bY, c8, List.getElem?_cons_zero, Option.bind_some, Option.map_some, dm, get_slot, bX, ix0, ed, dc, hc, decide_false, Bool.false_eq_true, if_false]
 show W _ [.imm (.str (tx (fg n))), .un] _
 rw [aO, bS, T1, ak, if_neg (by simp), bI, aM, aO, bS, T2, ak, if_neg (by simp), bI, aM, aO, bS, T3, ak, if_neg (by simp), bI, aM, dS]
 simp -implicitDefEqProofs [hi, zs]
end Law
namespace Law
open PySem L2 Q
theorem j8 {x : D} {p : PyData} (h : toP x = some p) (h2 : er p = true) : res cN cL [.imm x, .imm x] [] = some (.bl true, []) := by
 refine bR ?_
 unfold cL
 have := ly h h2
 simp -implicitDefEqProofs [this]
end Law
namespace Law
open PySem L2 Q
def OkD (n w : Nat) (d : D) : Prop := ∃ p, toP d = some p ∧ PyData.canLay0 p = true ∧ PyData.depth p ≤ n ∧ p.weight ≤ w ∧ PyData.intsShort 13 p = true ∧ p.showable = true ∧ p.hasDict = false
theorem OkD.mono {n n' w w' : Nat} {d : D} (h : OkD n w d) (hn : n ≤ n') (hw : w ≤ w') : OkD n' w' d := by
 obtain ⟨p, h1, h2, h3, h4, h5, h6, h7⟩ := h
 exact ⟨p, h1, h2, by omega, by omega, h5, h6, h7⟩
theorem iM {n w : Nat} : ∀ {xs : List D}, (∀ x ∈ xs, OkD n w x) → ∃ ps, cE xs = some ps ∧ PyData.canLayAll0 ps = true ∧ PyData.depthAll ps ≤ n ∧ PyData.weightAll ps ≤ (w + 1) * xs.length ∧ PyData.intsShortAll 13 ps = true ∧ PyData.showableAll ps = true ∧ PyData.hasDictAll ps = false
 | [], _ => ⟨[], rfl, rfl, Nat.zero_le _, Nat.zero_le _, rfl, rfl, rfl⟩
 | x :: xs, h => by
  obtain ⟨p, h1, h2, h3, h4, h5, h6, h7⟩ := h x List.mem_cons_self
  obtain ⟨ps, k1, k2, k3, k4, k5, k6, k7⟩ := iM fun y hy => h y (List.mem_cons_of_mem _ hy)
  refine ⟨p :: ps, ?_, ?_, ?_, ?_, ?_, ?_, ?_⟩
  ·show (toP x).bind (fun p => (cE xs).map fun ps => p :: ps) = _
   rw [h1, k1]; rfl
  ·simp [PyData.canLayAll0, h2, k2]
  ·simp only [PyData.depthAll]; omega
  ·show p.weight + 1 + PyData.weightAll ps ≤ (w + 1) * (xs.length + 1)
   rw [Nat.mul_add]; omega
  ·show (PyData.intsShort 13 p && PyData.intsShortAll 13 ps) = true
   rw [h5, k5]; rfl
  ·show (PyData.showable p && PyData.showableAll ps) = true
   rw [h6, k6]; rfl
  ·show (PyData.hasDict p || PyData.hasDictAll ps) = false
   rw [h7, k7]; rfl
theorem iW {n w : Nat} {xs : List D} (h : ∀ x ∈ xs, OkD n w x) : OkD (n + 1) ((w + 1) * xs.length) (.tup xs) := by
 obtain ⟨ps, h1, h2, h3, h4, h5, h6, h7⟩ := iM h
 exact ⟨.tuple ps, by simp [toP, h1], by simp [PyData.canLay0, h2], by simp [PyData.depth]; omega, h4, h5, h6, h7⟩
theorem fw {n w : Nat} {d : D} (h : OkD n w d) (hn : n ≤ 60) (hw : w ≤ 1000000) : res cN cL [.imm d, .imm d] [] = some (.bl true, []) := by
 obtain ⟨p, h1, h2, h3, h4, h5, h6, h7⟩ := h
 refine j8 h1 ?_
 have hlay : PyData.layable0 p = true := by
  show (PyData.canLay0 p && decide (PyData.depth p ≤ 64) && decide (p.weight ≤ 2 ^ 20)) = true
  have e : (2 : Nat) ^ 20 = 1048576 := by decide
  rw [h2, decide_eq_true (by omega), decide_eq_true (by omega)]; rfl
 have hs := PyProof.Rows.shown_le13 hlay h5
 have sz : (15728653 : Nat) ≤ sizeLine := by rw [sizeLine_eq]; omega
 unfold er
 rw [h6, h7, decide_eq_true (show PyData.depth p ≤ 60 by omega), decide_eq_true (Nat.le_trans hs sz)]; rfl
end Law
namespace Law
open PySem L2 Q
theorem mB : ∀ d : Nat, d < 10 → (Nat.digitChar d).toNat = 48 + d := by decide
theorem jD {d : Nat} (h : d < 10) : fg d = [48 + d] := by
 unfold fg; rw [Nat.toDigits_of_lt_base h]
 show [(Nat.digitChar d).toNat] = _
 rw [mB d h]
theorem lQ {m d : Nat} (hm : m ≠ 0) (hd : d < 10) : fg (10 * m + d) = fg m ++ [48 + d] := by
 have t : Nat.toDigits 10 m ++ Nat.toDigits 10 d = Nat.toDigits 10 (10 * m + d) := Nat.toDigits_append_toDigits (by decide) (by omega) hd
 have h1 := jD hd
 unfold fg at *
 rw [← t, List.map_append, h1]
theorem hL : ∀ (k : Nat) (v : List Nat), v.length = k + 1 → (∀ c ∈ v, 48 ≤ c ∧ c ≤ 57) → (v.head? = some 48 → k = 0) → ∃ n, fg n = v ∧ n < 10 ^ (k + 1) ∧ (v.head? ≠ some 48 → n ≠ 0)
 | 0, v, hl, hd, _ => by
  match v, hl with
  | [c], _ =>
   have := hd c (by simp)
   refine ⟨c - 48, ?_, by omega, fun h => ?_⟩
   ·rw [jD (by omega)]
    have : 48 + (c - 48) = c := by omega
    rw [this]
   ·have : c ≠ 48 := fun z => h (by rw [z]; rfl)
    omega
 | k + 1, v, hl, hd, h0 => by
  have hne : v ≠ [] := fun z => by rw [z] at hl; cases hl
  obtain ⟨w, c, rfl⟩ : ∃ w c, v = w ++ [c] := ⟨v.dropLast, v.getLast hne, (List.dropLast_concat_getLast hne).symm⟩
  have hw : w.length = k + 1 := by simpa using hl
  have hhd : (w ++ [c]).head? = w.head? := by
   cases w with
   | nil => cases hw
   | cons a r => rfl
  rw [hhd] at h0 ⊢
  have h48 : w.head? ≠ some 48 := fun z => by have := h0 z; omega
  obtain ⟨m, e, hm, hm0⟩ := hL k w hw (fun x hx => hd x (by simp [hx])) fun z => absurd z h48
  have hc := hd c (by simp)
  refine ⟨10 * m + (c - 48), ?_, ?_, fun _ => by have := hm0 h48; omega⟩
  ·rw [lQ (hm0 h48) (by omega), e]
   have : 48 + (c - 48) = c := by omega
   rw [this]
  ·rw [Nat.pow_succ]; omega
theorem nR {v : List Nat} (h1 : 1 ≤ v.length) (h6 : v.length ≤ 6) (hd : ∀ c ∈ v, 48 ≤ c ∧ c ≤ 57) (h0 : v.head? = some 48 → v.length = 1) : ∃ n, n < 1000000 ∧ fg n = v := by
 obtain ⟨n, e, hn, _⟩ := hL (v.length - 1) v (by omega) hd (fun z => by have := h0 z; omega)
 refine ⟨n, Nat.lt_of_lt_of_le hn ?_, e⟩
 have : 10 ^ (v.length - 1 + 1) ≤ 10 ^ 6 := Nat.pow_le_pow_right (by decide) (by omega)
 exact this
theorem m6 {v : List Nat} (hl : v.length ≤ 1000) : res d6 c9 [.imm (.str (tx v))] [] = some (.non, []) ∨ ∃ n, n < 1000000 ∧ fg n = v := by
 have ha := iZ v
 have zl : v.length ≤ sizeLine := szS (by omega)
 by_cases c1 : 1 ≤ v.length ∧ v.length ≤ 6
 ·cases hany : v.any (fun c => !decide (48 ≤ c ∧ c ≤ 57)) with
  | true =>
   left
   refine bR ?_
   unfold c9
   rw [hany] at ha
   have T1 : b9 (ao (cK dLe dLe (aa (mC (.int 1))) (aa (mBi aU (aw (af 0) aJ))) (aa (mC (.int 6))))) [.imm (.str (tx v)), .un] = some (false, [.imm (.str (tx v)), .un]) := by
    have c1' : (1 : Int) ≤ (v.length : Nat) := by omega
    have c2 : ((v.length : Nat) : Int) ≤ 6 := by omega
    simp -implicitDefEqProofs [zl, c1', c2]
   have T2 : cb (aa (mGx true [1] (df (aC 0)) (gN 1) dw (ae (dIn true) (af 1) (aa (mC (.str "0123456789")))))) [.imm (.str (tx v)), .un] = some (true, [.imm (.str (tx v)), .un]) := by
    simp -implicitDefEqProofs only [iq, bY, ha, Option.map_some, Option.bind_some, bX, ia]
   show W _ [.imm (.str (tx v)), .un] _
   rw [aO, bS, T1, ak, if_neg (by simp), bI, aM, aO, bS, T2, ak, if_pos rfl, dS, c8, ak, fb, ff, ew, ak]
   exact ⟨rfl, rfl⟩
  | false =>
   have hd : ∀ c ∈ v, 48 ≤ c ∧ c ≤ 57 := fun c hc => by
    have := List.any_eq_false.mp hany c hc
    simpa using this
   by_cases h0 : v.head? = some 48 → v.length = 1
   ·exact .inr (nR c1.1 c1.2 hd h0)
   ·left
    have h48 : v.head? = some 48 := Classical.byContradiction fun z => h0 fun y => absurd y z
    have hn1 : v.length ≠ 1 := fun z => h0 fun _ => z
    refine bR ?_
    unfold c9
    rw [hany] at ha
    have e0 : ("0" : Str) = tx [48] := rfl
    have ix0 : dIx (.str (tx v)) (.int 0) = some (.str (tx [48])) := by
     have hlt : 0 < (tx v).cps.toList.length := by rw [c0]; omega
     have := eK (z := tx v) (n := 0) (szS (by rw [aQ]; omega)) hlt
     have e : (tx v).cps.toList[0] = 48 := by
      have h3 : (tx v).cps.toList[0]? = some 48 := by rw [c0, ← List.head?_eq_getElem?, h48]
      rw [List.getElem?_eq_getElem hlt] at h3
      exact Option.some.inj h3
     rw [e] at this
     exact this
    have T1 : b9 (ao (cK dLe dLe (aa (mC (.int 1))) (aa (mBi aU (aw (af 0) aJ))) (aa (mC (.int 6))))) [.imm (.str (tx v)), .un] = some (false, [.imm (.str (tx v)), .un]) := by
     have c1' : (1 : Int) ≤ (v.length : Nat) := by omega
     have c2 : ((v.length : Nat) : Int) ≤ 6 := by omega
     simp -implicitDefEqProofs [zl, c1', c2]
    have T2 : cb (aa (mGx true [1] (df (aC 0)) (gN 1) dw (ae (dIn true) (af 1) (aa (mC (.str "0123456789")))))) [.imm (.str (tx v)), .un] = some (false, [.imm (.str (tx v)), .un]) := by
     simp -implicitDefEqProofs only [iq, bY, ha, Option.map_some, Option.bind_some, bX, ia]
    have T3 : eu (ao (ae (aG false) (aa (ae dIx (af 0) (aa (mC (.int 0))))) (aa (mC (.str "0"))))) (ao (ae dGt (aa (mBi aU (aw (af 0) aJ))) (aa (mC (.int 1))))) [.imm (.str (tx v)), .un] = some (true, [.imm (.str (tx v)), .un]) := by
     rw [e0]
     have c2 : (1 : Int) < ((v.length : Nat) : Int) := by omega
     simp -implicitDefEqProofs only [iu, dj, dz, fY, dq, ec, cJ, c6, cU, bY, c8, List.getElem?_cons_zero, Option.bind_some, Option.map_some, dm, get_slot, bX, ix0, ed, decide_true, Bool.false_eq_true, if_false, if_true, len_str, aQ, zl, iI, c2]
    show W _ [.imm (.str (tx v)), .un] _
    rw [aO, bS, T1, ak, if_neg (by simp), bI, aM, aO, bS, T2, ak, if_neg (by simp), bI, aM, aO, bS, T3, ak, if_pos rfl, dS, c8, ak, fb, ff, ew, ak]
    exact ⟨rfl, rfl⟩
 ·left
  refine bR ?_
  unfold c9
  have T1 : b9 (ao (cK dLe dLe (aa (mC (.int 1))) (aa (mBi aU (aw (af 0) aJ))) (aa (mC (.int 6))))) [.imm (.str (tx v)), .un] = some (true, [.imm (.str (tx v)), .un]) := by
   by_cases a : 1 ≤ v.length
   ·have c1' : (1 : Int) ≤ (v.length : Nat) := by omega
    have c2 : ¬ ((v.length : Nat) : Int) ≤ 6 := by omega
    simp -implicitDefEqProofs [zl, c1', c2]
   ·have c1' : ¬ (1 : Int) ≤ (v.length : Nat) := by omega
    simp -implicitDefEqProofs [zl, c1']
  show W _ [.imm (.str (tx v)), .un] _
  rw [aO, bS, T1, ak, if_pos rfl, dS, c8, ak, fb, ff, ew, ak]
  exact ⟨rfl, rfl⟩
end Law
namespace Law
open PySem L2 Q
theorem jT {n : Nat} (h : n < 1000000) : ((n : Int).natAbs).log2 < 1920 := by
 have e : (n : Int).natAbs = n := by omega
 rw [e]
 by_cases h0 : n = 0
 ·subst h0; decide
 ·have : n.log2 < 20 := (Nat.log2_lt h0).mpr (Nat.lt_of_lt_of_le h (by decide))
  omega
theorem oP {a : ME} {env e : En} {n : Nat} (h : a env = some (.int (n : Nat), e)) (hn : n < 1000000) : cH a env = some (.str (tx (fg n)), e) := by
 have h1 := jT hn
 unfold cH; rw [h]; simp only [Option.bind_some]; rw [if_pos h1, fe]
theorem og {n : Nat} (hn : n < 1000000) : jf [.int (n : Nat)] = some (.str (tx (fg n))) := by
 have h1 := jT hn
 show (if ((n : Int).natAbs).log2 < 1920 then some (D.str (Str.ofString (toString (n : Int)))) else none) = _
 rw [if_pos h1, fe]
theorem iP (a : Str) : Str.empty ++ a = a := Str.empty_append a
end Law
namespace Law
open PySem L2 Q
theorem fh (c : Nat) : ∀ w : List Nat, b0 c (aA c w) = w
 | [] => by simp [aA, b0]
 | x :: r => by
  have ih := fh c r
  unfold aA
  by_cases hx : x = c
  ·rw [if_pos hx]
   cases hs : aA c r with
   | nil => exact absurd hs (bT c r)
   | cons w ws => rw [hs] at ih; rw [b0, ih, hx]; rfl
  ·rw [if_neg hx]
   cases hs : aA c r with
   | nil => exact absurd hs (bT c r)
   | cons w ws =>
    rw [hs] at ih
    cases ws with
    | nil => simp only [b0] at *; rw [ih]
    | cons u us => simp only [b0, List.cons_append] at *; rw [ih]
theorem fQ (c : Nat) : ∀ w : List Nat, (aA c w).length ≤ w.length + 1 ∧ ∀ a ∈ aA c w, a.length ≤ w.length
 | [] => by simp [aA]
 | x :: r => by
  obtain ⟨h1, h2⟩ := fQ c r
  unfold aA
  by_cases hx : x = c
  ·rw [if_pos hx]
   refine ⟨by simp; omega, fun a h => ?_⟩
   rcases List.mem_cons.mp h with rfl | h
   ·simp
   ·have := h2 a h; simp; omega
  ·rw [if_neg hx]
   cases hs : aA c r with
   | nil => exact absurd hs (bT c r)
   | cons w ws =>
    rw [hs] at h1 h2
    simp only
    refine ⟨by simp at *; omega, fun a h => ?_⟩
    rcases List.mem_cons.mp h with rfl | h
    ·have := h2 w (by simp); simp; omega
    ·have := h2 a (by simp [h]); simp; omega
abbrev sW (ws : List (List Nat)) : List D := ws.map fun w => .str (tx w)
theorem je {w : List Nat} (hl : w.length ≤ 1000) : eQ (tx w) (Str.ofString " ") = some (.lst (sW (aA 32 w))) := by
 have e : (Str.ofString " ") = ⟨#[32]⟩ := rfl
 rw [e]
 have sp := j9 (tx w) (c := 32) (by omega)
 rw [c0] at sp
 have z : (tx w).length + 2 ≤ sizeLine := szS (by rw [aQ]; omega)
 have z1 : ((⟨#[32]⟩ : Str).length == 0) = false := rfl
 unfold eQ
 rw [if_pos ⟨z1, z⟩, sp, List.map_map]
 rfl
inductive Ev where
 | ord (s g : Nat) | num (k n : Nat)
abbrev OR : List Nat := [111, 114, 100, 101, 114]
def wd : Nat → List Nat
 | 0 => [103, 111]
 | 1 => [102, 97, 105, 108]
 | _ => [116, 111, 119]
def dr : Ev → Prop
 | .ord s g => s < 26 ∧ g < 26
 | .num k n => k < 3 ∧ n < 1000000
def lnE : Ev → List Nat
 | .ord s g => OR ++ [32, 65 + s, 32, 65 + g]
 | .num k n => wd k ++ 32 :: fg n
def evD : Ev → D
 | .ord s g => .tup [.str (tx OR), .int (s : Nat), .int (g : Nat)]
 | .num k n => .tup [.str (tx (wd k)), .int (n : Nat)]
theorem fS (k : Nat) : wd k ≠ OR := by
 unfold wd; split <;> decide
theorem fM (k : Nat) : (wd k).length ≤ 4 := by unfold wd; split <;> decide
theorem gj {e : Ev} (h : dr e) : (lnE e).length ≤ 12 := by
 cases e with
 | ord s g => simp [lnE]
 | num k n =>
  have := eM h.2
  have := fM k
  simp [lnE]; omega
abbrev LT : List Nat := [65, 66, 67, 68, 69, 70, 71, 72, 73, 74, 75, 76, 77, 78, 79, 80, 81, 82, 83, 84, 85, 86, 87, 88, 89, 90]
theorem ou : ∀ s : Nat, s < 26 → LT[s]? = some (65 + s) := by decide
theorem kI : ("ABCDEFGHIJKLMNOPQRSTUVWXYZ" : Str) = tx LT := rfl
theorem ixt {l : List Nat} {k c : Nat} (h : l[k]? = some c) (hl : l.length ≤ 1000) : dIx (.str (tx l)) (.int (k : Nat)) = some (.str (tx [c])) := by
 have h3 : k < l.length := (List.getElem?_eq_some_iff.mp h).1
 have := eK (z := tx l) (n := k) (szS (by rw [aQ]; omega)) (by simpa [tx] using h3)
 rw [this]
 have h4 : (tx l).cps.toList = l := by simp [tx]
 have : (tx l).cps.toList[k]'(by simpa [tx] using h3) = c := by
  have q := List.getElem?_eq_some_iff.mp h
  simp only [h4]
  exact q.2
 rw [this]
theorem fN {s : Nat} (h : s < 26) : dIx (.str "ABCDEFGHIJKLMNOPQRSTUVWXYZ") (.int (s : Nat)) = some (.str (tx [65 + s])) := by
 rw [kI]; exact ixt (ou s h) (by decide)
theorem ey {a b : List Nat} (h : a.length + b.length ≤ 1000) : aT (.str (tx a)) (.str (tx b)) = some (.str (tx (a ++ b))) := by
 rw [add_str, if_pos (szS (by rw [aQ, aQ]; omega)), ir]
theorem eqT (a b : List Nat) : aG false (.str (tx a)) (.str (tx b)) = some (.bl (decide (a = b))) := by
 rw [ed]
 have : decide (tx a = tx b) = decide (a = b) := by rw [decide_eq_decide]; exact d9
 rw [this]; rfl
theorem hZ {e : Ev} (h : dr e) : res dJ da [.imm (evD e)] [] = some (.str (tx (lnE e)), []) := by
 refine bR ?_
 show W da [.imm (evD e), .un] _
 unfold da
 have eo : ("order" : Str) = tx OR := rfl
 have eo2 : ("order " : Str) = tx (OR ++ [32]) := rfl
 have es : (" " : Str) = tx [32] := rfl
 rw [eo, eo2, es]
 cases e with
 | ord s g =>
  obtain ⟨hs, hg⟩ := h
  have i0 : dIx (evD (.ord s g)) (.int 0) = some (.str (tx OR)) := rfl
  have i1 : dIx (evD (.ord s g)) (.int 1) = some (.int (s : Nat)) := rfl
  have i2 : dIx (evD (.ord s g)) (.int 2) = some (.int (g : Nat)) := rfl
  have l1 := fN hs
  have l2 := fN hg
  have q := eqT OR OR
  have a1 := ey (a := OR ++ [32]) (b := [65 + s]) (by simp)
  have a2 := ey (a := OR ++ [32] ++ [65 + s]) (b := [32]) (by simp)
  have a3 := ey (a := OR ++ [32] ++ [65 + s] ++ [32]) (b := [65 + g]) (by simp)
  have el : lnE (.ord s g) = OR ++ [32] ++ [65 + s] ++ [32] ++ [65 + g] := by simp [lnE]
  rw [el]
  generalize evD (.ord s g) = ED at *
  generalize D.str (tx (OR ++ [32] ++ [65 + s] ++ [32] ++ [65 + g])) = R4 at *
  generalize D.str (tx (OR ++ [32] ++ [65 + s] ++ [32])) = R3 at *
  generalize D.str (tx (OR ++ [32] ++ [65 + s])) = R2 at *
  generalize D.str (tx (OR ++ [32])) = R1 at *
  generalize D.str (tx OR) = R0 at *
  generalize D.str "ABCDEFGHIJKLMNOPQRSTUVWXYZ" = LL at *
  generalize D.str (tx [65 + s]) = LS at *
  generalize D.str (tx [65 + g]) = LG at *
  generalize D.str (tx [32]) = SP at *
  simp -implicitDefEqProofs [i0, i1, i2, l1, l2, q, a1, a2, a3]
 | num k n =>
  obtain ⟨hk, hn⟩ := h
  have i0 : dIx (evD (.num k n)) (.int 0) = some (.str (tx (wd k))) := rfl
  have i1 : dIx (evD (.num k n)) (.int 1) = some (.int (n : Nat)) := rfl
  have q := eqT (wd k) OR
  rw [decide_eq_false (fS k)] at q
  have st := og hn
  have hl := eM hn
  have hw := fM k
  have a1 := ey (a := wd k) (b := [32]) (by simp; omega)
  have a2 := ey (a := wd k ++ [32]) (b := fg n) (by simp; omega)
  have el : lnE (.num k n) = wd k ++ [32] ++ fg n := by simp [lnE]
  rw [el]
  generalize evD (.num k n) = ED at *
  generalize D.str (tx (wd k ++ [32] ++ fg n)) = R2 at *
  generalize D.str (tx (wd k ++ [32])) = R1 at *
  generalize D.str (tx (wd k)) = R0 at *
  generalize D.str (tx OR) = RO at *
  generalize D.str (tx (fg n)) = RN at *
  generalize D.str (tx [32]) = SP at *
  simp -implicitDefEqProofs [i0, i1, q, st, a1, a2]
end Law
namespace Law
open PySem L2 Q
theorem i7 {a : ME} {env e : En} {x : List Nat} (hl : x.length ≤ 1000) (h : a env = some (.str (tx x), e)) : cH a env = some (.str (tx x), e) := by
 have z : (tx x).length ≤ sizeLine := szS (by rw [aQ]; omega)
 unfold cH; rw [h]; simp only [Option.bind_some]; rw [if_pos z]
theorem nZ {a b c d : ME} {en : En} {x y z w : List Nat} (h1 : a en = some (.str (tx x), en)) (h2 : b en = some (.str (tx y), en)) (h3 : c en = some (.str (tx z), en)) (h4 : d en = some (.str (tx w), en)) (hl : x.length + y.length + z.length + w.length ≤ 1000) :
  cj [a, b, c, d] en = some (.str (tx (x ++ y ++ z ++ w)), en) := by
 have z1 : (tx x).length ≤ sizeLine := szS (by rw [aQ]; omega)
 have z2 : (tx (x ++ y)).length ≤ sizeLine := szS (by rw [aQ]; simp; omega)
 have z3 : (tx (x ++ y ++ z)).length ≤ sizeLine := szS (by rw [aQ]; simp; omega)
 have z4 : (tx (x ++ y ++ z ++ w)).length ≤ sizeLine := szS (by rw [aQ]; simp; omega)
 unfold cj
 simp only [mJs, h1, h2, h3, h4, Option.bind_some, iP, z1, if_true, ir, z2, z3, z4, Option.map_some]
theorem oi {a b c : ME} {en : En} {x y z : List Nat} (h1 : a en = some (.str (tx x), en)) (h2 : b en = some (.str (tx y), en)) (h3 : c en = some (.str (tx z), en)) (hl : x.length + y.length + z.length ≤ 1000) :
  cj [a, b, c] en = some (.str (tx (x ++ y ++ z)), en) := by
 have z1 : (tx x).length ≤ sizeLine := szS (by rw [aQ]; omega)
 have z2 : (tx (x ++ y)).length ≤ sizeLine := szS (by rw [aQ]; simp; omega)
 have z3 : (tx (x ++ y ++ z)).length ≤ sizeLine := szS (by rw [aQ]; simp; omega)
 unfold cj
 simp only [mJs, h1, h2, h3, Option.bind_some, iP, z1, if_true, ir, z2, z3, Option.map_some]
theorem ji {e : Ev} (h : dr e) : res eP et [.imm (evD e)] [] = some (.str (tx (lnE e)), []) := by
 refine bR ?_
 show W et [.imm (evD e)] _
 unfold et
 have eo : ("order" : Str) = tx OR := rfl
 have eo2 : ("order " : Str) = tx (OR ++ [32]) := rfl
 have es : (" " : Str) = tx [32] := rfl
 rw [eo, eo2, es]
 cases e with
 | ord s g =>
  obtain ⟨hs, hg⟩ := h
  have i0 : dIx (evD (.ord s g)) (.int 0) = some (.str (tx OR)) := rfl
  have i1 : dIx (evD (.ord s g)) (.int 1) = some (.int (s : Nat)) := rfl
  have i2 : dIx (evD (.ord s g)) (.int 2) = some (.int (g : Nat)) := rfl
  have l1 := fN hs
  have l2 := fN hg
  have q := eqT OR OR
  have el : lnE (.ord s g) = OR ++ [32] ++ [65 + s] ++ [32] ++ [65 + g] := by simp [lnE]
  rw [el]
  have J := nZ (a := mC (.str (tx (OR ++ [32])))) (b := cH (ae dIx (aa (mC (.str "ABCDEFGHIJKLMNOPQRSTUVWXYZ"))) (aa (ae dIx (af 0) (aa (mC (.int 1))))))) (c := mC (.str (tx [32]))) (d := cH (ae dIx (aa (mC (.str "ABCDEFGHIJKLMNOPQRSTUVWXYZ"))) (aa (ae dIx (af 0) (aa (mC (.int 2))))))) (en := [.imm (evD (.ord s g))]) (x := OR ++ [32]) (y := [65 + s]) (z := [32]) (w := [65 + g]) rfl (i7 (by simp) (by
    generalize evD (.ord s g) = ED at *
    generalize D.str "ABCDEFGHIJKLMNOPQRSTUVWXYZ" = LL at *
    simp -implicitDefEqProofs [i1, l1])) rfl (i7 (by simp) (by
    generalize evD (.ord s g) = ED at *
    generalize D.str "ABCDEFGHIJKLMNOPQRSTUVWXYZ" = LL at *
    simp -implicitDefEqProofs [i2, l2])) (by simp)
  generalize cj _ = JJ at *
  generalize D.str (tx (OR ++ [32] ++ [65 + s] ++ [32] ++ [65 + g])) = RR at *
  generalize evD (.ord s g) = ED at *
  generalize D.str (tx OR) = RO at *
  simp -implicitDefEqProofs [i0, q, J]
 | num k n =>
  obtain ⟨hk, hn⟩ := h
  have i0 : dIx (evD (.num k n)) (.int 0) = some (.str (tx (wd k))) := rfl
  have i1 : dIx (evD (.num k n)) (.int 1) = some (.int (n : Nat)) := rfl
  have q := eqT (wd k) OR
  rw [decide_eq_false (fS k)] at q
  have hl := eM hn
  have hw := fM k
  have el : lnE (.num k n) = wd k ++ [32] ++ fg n := by simp [lnE]
  rw [el]
  have J := oi (a := cH (ae dIx (af 0) (aa (mC (.int 0))))) (b := mC (.str (tx [32]))) (c := cH (ae dIx (af 0) (aa (mC (.int 1))))) (en := [.imm (evD (.num k n))]) (x := wd k) (y := [32]) (z := fg n) (i7 (by omega) (by
    generalize evD (.num k n) = ED at *
    simp -implicitDefEqProofs [i0])) rfl (oP (by
    generalize evD (.num k n) = ED at *
    simp -implicitDefEqProofs [i1]) hn) (by simp; omega)
  have T : ao (ae (aG false) (aa (ae dIx (af 0) (aa (mC (.int 0))))) (aa (mC (.str (tx OR))))) [.imm (evD (.num k n))] = some (false, [.imm (evD (.num k n))]) := by
   generalize D.str (tx OR) = RO at *
   generalize evD (.num k n) = ED at *
   generalize D.str (tx (wd k)) = RK at *
   simp -implicitDefEqProofs [i0, q]
  rw [aO, bS, T, ak, if_neg (by simp), bI, aM, dS, J, ak, ff, ew, ak]
  exact ⟨rfl, rfl⟩
def okL : List Nat → Bool
 | [c] => decide (c ∈ LT)
 | _ => false
theorem oj (c : Nat) : dIn true (.str (tx [c])) (.str "ABCDEFGHIJKLMNOPQRSTUVWXYZ") = some (.bl (!decide (c ∈ LT))) := by
 have := iG true c (tx LT)
 rw [c0] at this
 exact this
theorem nY {w : List Nat} (hl : w.length ≤ 1000) (PD : D) : fy (ae (aG true) (aa (mBi aU (aw (af 1) aJ))) (aa (mC (.int 1)))) (ae (dIn true) (af 1) (aa (mC (.str "ABCDEFGHIJKLMNOPQRSTUVWXYZ")))) [.imm PD, .imm (.str (tx w))] = some (.bl (!okL w), [.imm PD, .imm (.str (tx w))]) := by
 have zl : w.length ≤ sizeLine := szS (by omega)
 by_cases h1 : w.length = 1
 ·obtain ⟨c, rfl⟩ : ∃ c, w = [c] := by
   match w, h1 with
   | [c], _ => exact ⟨c, rfl⟩
  have il := oj c
  have q : aU [.str (tx [c])] = some (.int 1) := rfl
  have q2 : aG true (.int 1) (.int 1) = some (.bl false) := rfl
  unfold okL
  generalize D.str (tx [c]) = CD at *
  generalize D.str "ABCDEFGHIJKLMNOPQRSTUVWXYZ" = LL at *
  simp -implicitDefEqProofs only [ju, dj, dz, fY, dq, ec, cJ, c6, cU, bY, c8, List.getElem?_cons_zero, List.getElem?_cons_succ, Option.bind_some, Option.map_some, dm, get_slot, bX, q, q2, il, Bool.false_eq_true, if_false]
 ·have ho : okL w = false := by
   unfold okL
   split
   ·exact absurd rfl h1
   ·rfl
  have q : aU [.str (tx w)] = some (.int (w.length : Nat)) := by rw [len_str, aQ, if_pos zl]
  have q2 : aG true (.int (w.length : Nat)) (.int ((1 : Nat) : Int)) = some (.bl true) := by
   have e : aG true (.int (w.length : Nat)) (.int ((1 : Nat) : Int)) = some (.bl (!decide (((w.length : Nat) : Int) = ((1 : Nat) : Int)))) := rfl
   rw [e, decide_eq_false (by omega)]; rfl
  rw [ho]
  have q2 : aG true (.int (w.length : Nat)) (.int 1) = some (.bl true) := q2
  generalize D.str (tx w) = CD at *
  simp -implicitDefEqProofs only [ju, dj, dz, fY, dq, ec, cJ, c6, cU, bY, c8, List.getElem?_cons_zero, List.getElem?_cons_succ, Option.bind_some, Option.map_some, dm, get_slot, bX, q, q2, if_true, Bool.not_false]
theorem iO {ws : List (List Nat)} (hl : ∀ w ∈ ws, w.length ≤ 1000) : mGx true [1] (df (aC 0)) (gN 1) dw (fy (ae (aG true) (aa (mBi aU (aw (af 1) aJ))) (aa (mC (.int 1)))) (ae (dIn true) (af 1) (aa (mC (.str "ABCDEFGHIJKLMNOPQRSTUVWXYZ"))))) [.imm (.lst (sW ws)), .un] = some (.bl (ws.any fun w => !okL w), [.imm (.lst (sW ws)), .un]) := by
 have mk := fun w hw => nY (w := w) (hl w hw)
 generalize fy _ _ = ME0 at *
 obtain ⟨e2, h1, ⟨t, rfl⟩⟩ := kn (stop := true) (vs := [1]) (mi := df (aC 0)) (gf := gN 1) (mt := dw) (me := ME0) (env := [.imm (.lst (sW ws)), .un]) (e0 := [.imm (.lst (sW ws)), .un]) (ds := sW ws) rfl rfl
  (fun i => (ws[i]?.map fun w => !okL w).getD false) (fun e => ∃ t, e = [.imm (.lst (sW ws)), t]) ⟨_, rfl⟩ (by
   rintro i d e hd ⟨t, rfl⟩
   rw [List.getElem?_map] at hd
   obtain ⟨w, hw, rfl⟩ := Option.map_eq_some_iff.mp hd
   refine ⟨[.imm (.lst (sW ws)), .imm (.str (tx w))], true, [.imm (.lst (sW ws)), .imm (.str (tx w))], rfl, rfl, fun _ => ⟨[.imm (.lst (sW ws)), .imm (.str (tx w))], ?_, ⟨_, rfl⟩⟩, fun z => by cases z⟩
   rw [hw, mk w (List.mem_of_getElem? hw)]
   rfl)
 have hbk : cZ [.imm (.lst (sW ws)), .un] (bV [.imm (.lst (sW ws)), t] [1]) [1] = [.imm (.lst (sW ws)), .un] := by simp -implicitDefEqProofs [cZ, bV]
 rw [h1, hbk, List.length_map]
 congr 2
 have : (∃ i, i < ws.length ∧ (ws[i]?.map fun w => !okL w).getD false = true) ↔ ws.any (fun w => !okL w) = true := by
  rw [List.any_eq_true]
  constructor
  ·rintro ⟨i, hi, h⟩
   rw [List.getElem?_eq_getElem hi] at h
   exact ⟨ws[i], List.getElem_mem hi, by simpa using h⟩
  ·rintro ⟨c, hc, h⟩
   obtain ⟨i, hi, e⟩ := List.getElem_of_mem hc
   exact ⟨i, hi, by rw [List.getElem?_eq_getElem hi, e]; simpa using h⟩
 by_cases h : ws.any (fun w => !okL w) = true
 ·rw [if_pos (this.mpr h), h]
 ·rw [if_neg (fun z => h (this.mp z))]
  cases hb : ws.any (fun w => !okL w) with
  | true => exact absurd hb h
  | false => rfl
theorem jv {w : List Nat} (h : okL w = true) : ∃ s, s < 26 ∧ w = [65 + s] := by
 unfold okL at h
 split at h
 ·rename_i c
  have hc := of_decide_eq_true h
  have : ∀ c ∈ LT, 65 ≤ c ∧ c < 91 := by decide
  have := this c hc
  exact ⟨c - 65, by omega, by congr 1; omega⟩
 ·cases h
theorem lP : ∀ s : Nat, s < 26 → Builtin.Str.occurrences (tx LT) (tx [65 + s]) 0 (tx LT).length 1 = [s] := by decide +kernel
theorem iN : ∀ s : Nat, s < 26 → okL [65 + s] = true := by decide
theorem jB {s : Nat} (h : s < 26) : eb "ABCDEFGHIJKLMNOPQRSTUVWXYZ" (tx [65 + s]) = some (.int (s : Nat)) := by
 rw [kI]
 unfold eb
 rw [lP s h]
theorem kN {s g : Nat} (hs : s < 26) (hg : g < 26) : res dX cC [.imm (.lst (sW [[65 + s], [65 + g]]))] [] = some (evD (.ord s g), []) := by
 refine bR ?_
 show W cC [.imm (.lst (sW [[65 + s], [65 + g]])), .un] _
 unfold cC
 have ha := iO (ws := [[65 + s], [65 + g]]) (by intro w hw; simp at hw; rcases hw with rfl | rfl <;> simp)
 have hb : [[65 + s], [65 + g]].any (fun w => !okL w) = false := by simp [iN s hs, iN g hg]
 rw [hb] at ha
 have q : aU [.lst (sW [[65 + s], [65 + g]])] = some (.int 2) := rfl
 have q2 : aG true (.int 2) (.int 2) = some (.bl false) := rfl
 have x0 : dIx (.lst (sW [[65 + s], [65 + g]])) (.int 0) = some (.str (tx [65 + s])) := rfl
 have x1 : dIx (.lst (sW [[65 + s], [65 + g]])) (.int 1) = some (.str (tx [65 + g])) := rfl
 have f0 := jB hs
 have f1 := jB hg
 have eo : ("order" : Str) = tx OR := rfl
 have re : evD (.ord s g) = .tup [.str (tx OR), .int (s : Nat), .int (g : Nat)] := rfl
 rw [re, eo]
 obtain ⟨LLs, hLL⟩ : ∃ L : Str, L = ("ABCDEFGHIJKLMNOPQRSTUVWXYZ" : Str) := ⟨_, rfl⟩
 obtain ⟨A, hA⟩ : ∃ L : Str, L = tx [65 + s] := ⟨_, rfl⟩
 obtain ⟨B, hB⟩ : ∃ L : Str, L = tx [65 + g] := ⟨_, rfl⟩
 rw [← hA] at x0 f0
 rw [← hB] at x1 f1
 rw [← hLL] at f0 f1 ha ⊢
 generalize mGx _ _ _ _ _ _ = GX at *
 generalize D.lst (sW [[65 + s], [65 + g]]) = PD at *
 generalize D.str (tx OR) = RO at *
 simp -implicitDefEqProofs [q, q2, ha, x0, x1, mM1, f0, f1]
theorem mF {ws : List (List Nat)} (hn : ws.length ≤ 1000) (hl : ∀ w ∈ ws, w.length ≤ 1000) : res dX cC [.imm (.lst (sW ws))] [] = some (.non, []) ∨ ∃ s g, s < 26 ∧ g < 26 ∧ ws = [[65 + s], [65 + g]] := by
 have hln : (sW ws).length = ws.length := List.length_map _
 have q : aU [.lst (sW ws)] = some (.int (ws.length : Nat)) := by
  show some (D.int ((sW ws).length : Nat)) = _
  rw [hln]
 have q3 : aG true (.int (ws.length : Nat)) (.int ((2 : Nat) : Int)) = some (.bl (!decide (((ws.length : Nat) : Int) = ((2 : Nat) : Int)))) := rfl
 have q2 : aG true (.int (ws.length : Nat)) (.int 2) = some (.bl (!decide (((ws.length : Nat) : Int) = ((2 : Nat) : Int)))) := q3
 by_cases h2 : ws.length = 2
 ·match ws, h2 with
  | [a, b], _ =>
   cases hb : [a, b].any (fun w => !okL w) with
   | true =>
    left
    refine bR ?_
    show W cC [.imm (.lst (sW [a, b])), .un] _
    unfold cC
    have ha := iO hl
    rw [hb] at ha
    have q : aU [.lst (sW [a, b])] = some (.int 2) := rfl
    have q2 : aG true (.int 2) (.int 2) = some (.bl false) := rfl
    generalize mGx _ _ _ _ _ _ = GX at *
    generalize D.lst (sW [a, b]) = PD at *
    simp -implicitDefEqProofs [q, q2, ha]
   | false =>
    right
    have h1 := List.any_eq_false.mp hb a (by simp)
    have h2 := List.any_eq_false.mp hb b (by simp)
    obtain ⟨s, hs, rfl⟩ := jv (w := a) (by simpa using h1)
    obtain ⟨g, hg, rfl⟩ := jv (w := b) (by simpa using h2)
    exact ⟨s, g, hs, hg, rfl⟩
 ·left
  rw [decide_eq_false (by omega)] at q2
  refine bR ?_
  show W cC [.imm (.lst (sW ws)), .un] _
  unfold cC
  generalize mGx _ _ _ _ _ _ = GX at *
  generalize D.lst (sW ws) = PD at *
  simp -implicitDefEqProofs [q, q2]
end Law
namespace Law
open PySem L2 Q
theorem jC (xs : List D) (k : Nat) : cutD xs (some (k : Int)) none = xs.drop k := by
 have h1 : HT.sIx xs.length 0 (some (k : Int)) = min k xs.length := HT.sIx_nat _ _ _
 have h2 : HT.sIx xs.length xs.length none = xs.length := HT.sIx_none _ _
 unfold cutD
 rw [h1, h2]
 by_cases h : k ≤ xs.length
 ·rw [Nat.min_eq_left h, List.take_of_length_le (by rw [List.length_drop]; omega)]
 ·rw [Nat.min_eq_right (by omega), Nat.sub_self, List.take_zero, List.drop_eq_nil_of_le (by omega)]
theorem lW (a b : Str) : eqV (V.str a) (V.str b) = decide (a = b) := rfl
theorem mX (x : D) (xs : List D) : hU (.lst (x :: xs)) (some 1) none = some (.lst xs) := by
 show some (D.lst (cutD (x :: xs) (some ((1 : Nat) : Int)) none)) = _
 rw [jC]; rfl
theorem mA (x : D) (xs : List D) : dIx (.lst (x :: xs)) (.int 0) = some x := by
 have : ((0 : Int)) = ((0 : Nat) : Int) := rfl
 rw [this, Q.l7, fk]; rfl
theorem gy (neg : Bool) (a : List Nat) (L : List (List Nat)) : dIn neg (.str (tx a)) (.tup (sW L)) = some (.bl (if neg then !decide (a ∈ L) else decide (a ∈ L))) := by
 have f : ∀ L : List (List Nat), cQ (sW L) = some (L.map fun w => V.str (tx w)) := fun L => by
  induction L with
  | nil => rfl
  | cons a L ih => simp [cQ, D.flat?, ih]
 have g : inV (V.str (tx a)) (L.map fun w => V.str (tx w)) = decide (a ∈ L) := by
  induction L with
  | nil => simp [inV]
  | cons m L ih =>
   unfold inV at *
   simp only [List.map_cons, List.any_cons, ih]
   have : eqV (V.str (tx m)) (V.str (tx a)) = decide (m = a) := by rw [lW]; exact decide_eq_decide.mpr d9
   rw [this]
   by_cases h : m = a
   ·simp [h]
   ·have : ¬ a = m := fun z => h z.symm
    simp [h, this]
 simp only [dIn, D.items?, Option.bind_some, f, D.flat?, Option.map_some, g]
section
variable {w a : List Nat} {r : List (List Nat)} {d : D}
theorem gw (hl : w.length ≤ 900) (hs : aA 32 w = OR :: r) (hr : res dX cC [.imm (.lst (sW r))] [] = some (d, [])) : res b7 bL [.imm (.str (tx w))] [] = some (d, []) := by
 refine bR ?_
 show W bL [.imm (.str (tx w)), .un, .un, .un] _
 unfold bL
 have sp := je (w := w) (by omega)
 rw [hs] at sp
 have x0 : dIx (.lst (sW (OR :: r))) (.int 0) = some (.str (tx OR)) := mA _ _
 have q := eqT OR OR
 have sl : hU (.lst (sW (OR :: r))) (some 1) none = some (.lst (sW r)) := mX _ _
 have eo : ("order" : Str) = tx OR := rfl
 rw [eo]
 generalize D.lst (sW (OR :: r)) = PD at *
 generalize D.lst (sW r) = QD at *
 obtain ⟨WT, hWT⟩ : ∃ W : Str, W = tx w := ⟨_, rfl⟩
 rw [← hWT] at sp ⊢
 generalize D.str (tx OR) = RO at *
 simp -implicitDefEqProofs [dA, mM1, sp, x0, q, sl, hr]
theorem mD (hl : w.length ≤ 900) (hs : aA 32 w = a :: r) (ha : a ≠ OR) (hno : ¬ (a ∈ [wd 0, wd 1, wd 2] ∧ r.length = 1)) : res b7 bL [.imm (.str (tx w))] [] = some (.non, []) := by
 refine bR ?_
 show W bL [.imm (.str (tx w)), .un, .un, .un] _
 unfold bL
 have sp := je (w := w) (by omega)
 rw [hs] at sp
 have x0 : dIx (.lst (sW (a :: r))) (.int 0) = some (.str (tx a)) := mA _ _
 have q := eqT a OR
 rw [decide_eq_false ha] at q
 have eo : ("order" : Str) = tx OR := rfl
 have tu : ∀ env, bK (ai (mC (.str "go")) (ai (mC (.str "fail")) (ai (mC (.str "tow")) aZ))) env = some (.tup (sW [wd 0, wd 1, wd 2]), env) := fun _ => rfl
 have inn := gy true a [wd 0, wd 1, wd 2]
 have hln : (sW (a :: r)).length = r.length + 1 := by rw [List.length_map]; rfl
 have ql : aU [.lst (sW (a :: r))] = some (.int ((r.length + 1 : Nat) : Int)) := by
  show some (D.int ((sW (a :: r)).length : Nat)) = _
  rw [hln]
 have q3 : aG true (.int ((r.length + 1 : Nat) : Int)) (.int ((2 : Nat) : Int)) = some (.bl (!decide (((r.length + 1 : Nat) : Int) = ((2 : Nat) : Int)))) := rfl
 have q2 : aG true (.int ((r.length + 1 : Nat) : Int)) (.int 2) = some (.bl (!decide (((r.length + 1 : Nat) : Int) = ((2 : Nat) : Int)))) := q3
 rw [eo]
 by_cases hm : a ∈ [wd 0, wd 1, wd 2]
 ·have hr1 : r.length ≠ 1 := fun z => hno ⟨hm, z⟩
  rw [decide_eq_true hm] at inn
  rw [decide_eq_false (by omega)] at q2
  generalize bK _ = MT0 at *
  generalize D.tup (sW [wd 0, wd 1, wd 2]) = TD at *
  generalize D.lst (sW (a :: r)) = PD at *
  obtain ⟨WT, hWT⟩ : ∃ W : Str, W = tx w := ⟨_, rfl⟩
  rw [← hWT] at sp ⊢
  generalize D.str (tx OR) = RO at *
  generalize D.str (tx a) = AD at *
  generalize ((r.length + 1 : Nat) : Int) = NN at *
  simp -implicitDefEqProofs [dA, mM1, sp, x0, q, tu, inn, ql, q2]
 ·rw [decide_eq_false hm] at inn
  generalize bK _ = MT0 at *
  generalize D.tup (sW [wd 0, wd 1, wd 2]) = TD at *
  generalize D.lst (sW (a :: r)) = PD at *
  obtain ⟨WT, hWT⟩ : ∃ W : Str, W = tx w := ⟨_, rfl⟩
  rw [← hWT] at sp ⊢
  generalize D.str (tx OR) = RO at *
  generalize D.str (tx a) = AD at *
  simp -implicitDefEqProofs [dA, mM1, sp, x0, q, tu, inn]
theorem ig {k : Nat} {v : List Nat} {d : D} (hl : w.length ≤ 900) (hk : k < 3) (hs : aA 32 w = [wd k, v]) (hr : res d6 c9 [.imm (.str (tx v))] [] = some (d, [])) (hd : d = .non ∨ ∃ n : Nat, d = .int (n : Nat)) :
  res b7 bL [.imm (.str (tx w))] [] = some (if d.isNon then .non else .tup [.str (tx (wd k)), d], []) := by
 refine bR ?_
 show W bL [.imm (.str (tx w)), .un, .un, .un] _
 unfold bL
 have sp := je (w := w) (by omega)
 rw [hs] at sp
 have x0 : dIx (.lst (sW [wd k, v])) (.int 0) = some (.str (tx (wd k))) := rfl
 have x1 : dIx (.lst (sW [wd k, v])) (.int 1) = some (.str (tx v)) := rfl
 have q := eqT (wd k) OR
 rw [decide_eq_false (fS k)] at q
 have eo : ("order" : Str) = tx OR := rfl
 have tu : ∀ env, bK (ai (mC (.str "go")) (ai (mC (.str "fail")) (ai (mC (.str "tow")) aZ))) env = some (.tup (sW [wd 0, wd 1, wd 2]), env) := fun _ => rfl
 have inn := gy true (wd k) [wd 0, wd 1, wd 2]
 have hm : wd k ∈ [wd 0, wd 1, wd 2] := by
  match k, hk with
  | 0, _ => simp
  | 1, _ => simp
  | 2, _ => simp
 rw [decide_eq_true hm] at inn
 have ql : aU [.lst (sW [wd k, v])] = some (.int 2) := rfl
 have q2 : aG true (.int 2) (.int 2) = some (.bl false) := rfl
 rw [eo]
 obtain ⟨WT, hWT⟩ : ∃ W : Str, W = tx w := ⟨_, rfl⟩
 rw [← hWT] at sp ⊢
 obtain ⟨MT0, hMT⟩ : ∃ m, m = bK (ai (mC (.str "go")) (ai (mC (.str "fail")) (ai (mC (.str "tow")) aZ))) := ⟨_, rfl⟩
 rw [← hMT] at tu ⊢
 generalize D.tup (sW [wd 0, wd 1, wd 2]) = TD at *
 generalize D.lst (sW [wd k, v]) = PD at *
 generalize D.str (tx OR) = RO at *
 generalize D.str (tx (wd k)) = AD at *
 generalize D.str (tx v) = VD at *
 rcases hd with rfl | ⟨n, rfl⟩
 ·unfold mIf
  simp -implicitDefEqProofs [dA, mM1, sp, x0, x1, q, tu, inn, ql, q2, hr]
 ·unfold mIf
  simp -implicitDefEqProofs [dA, mM1, sp, x0, x1, q, tu, inn, ql, q2, hr]
end
theorem oA {e : Ev} (h : dr e) : res b7 bL [.imm (.str (tx (lnE e)))] [] = some (evD e, []) := by
 have hl := gj h
 cases e with
 | ord s g =>
  have hs : aA 32 (lnE (.ord s g)) = OR :: [[65 + s], [65 + g]] := by
   have e : lnE (.ord s g) = b0 32 [OR, [65 + s], [65 + g]] := by simp [lnE, b0]
   rw [e]
   exact split_join 32 _ (by simp) (by intro a ha; simp at ha; rcases ha with rfl | rfl | rfl <;> simp; all_goals omega)
  exact gw (by omega) hs (kN h.1 h.2)
 | num k n =>
  have hs : aA 32 (lnE (.num k n)) = [wd k, fg n] := by
   have e : lnE (.num k n) = b0 32 [wd k, fg n] := by simp [lnE, b0]
   rw [e]
   refine split_join 32 _ (by simp) (by
    intro a ha
    simp at ha
    rcases ha with rfl | rfl
    ·unfold wd; split <;> decide
    ·intro z; have := gY z; omega)
  exact ig (by omega) h.1 hs (jt h.2) (.inr ⟨n, rfl⟩)
theorem nq {w : List Nat} (hl : w.length ≤ 900) : res b7 bL [.imm (.str (tx w))] [] = some (.non, []) ∨ ∃ e, dr e ∧ lnE e = w ∧ res b7 bL [.imm (.str (tx w))] [] = some (evD e, []) := by
 obtain ⟨h1, h2⟩ := fQ 32 w
 have hj := fh 32 w
 cases hs : aA 32 w with
 | nil => exact absurd hs (bT 32 w)
 | cons a r =>
  rw [hs] at h1 h2 hj
  by_cases ha : a = OR
  ·subst ha
   rcases mF (ws := r) (by simp at h1; omega) (fun v hv => by have := h2 v (by simp [hv]); omega) with hr | ⟨s, g, hs1, hg1, rfl⟩
   ·exact .inl (gw hl hs hr)
   ·right
    refine ⟨.ord s g, ⟨hs1, hg1⟩, ?_, gw hl hs (kN hs1 hg1)⟩
    rw [← hj]; simp [lnE, b0]
  ·by_cases hm : a ∈ [wd 0, wd 1, wd 2] ∧ r.length = 1
   ·obtain ⟨hm, hr1⟩ := hm
    obtain ⟨k, hk, rfl⟩ : ∃ k, k < 3 ∧ a = wd k := by
     simp only [List.mem_cons, List.not_mem_nil, or_false] at hm
     rcases hm with h | h | h
     ·exact ⟨0, by omega, h⟩
     ·exact ⟨1, by omega, h⟩
     ·exact ⟨2, by omega, h⟩
    match r, hr1 with
    | [v], _ =>
     have hv : v.length ≤ 1000 := by have := h2 v (by simp); omega
     rcases m6 hv with hr | ⟨n, hn, rfl⟩
     ·left
      have := ig hl hk hs hr (.inl rfl)
      exact this
     ·right
      refine ⟨.num k n, ⟨hk, hn⟩, ?_, ig hl hk hs (jt hn) (.inr ⟨n, rfl⟩)⟩
      rw [← hj]; simp [lnE, b0]
   ·exact .inl (mD hl hs ha hm)
end Law
namespace Law
open PySem L2 Q
theorem jR (t : List Nat) (k : Nat) : cutS (tx t) none (some (k : Int)) = tx (t.take k) := by
 have h1 : HT.sIx (tx t).length (tx t).length (some (k : Int)) = min k (tx t).length := HT.sIx_nat _ _ _
 have h2 : HT.sIx (tx t).length 0 none = 0 := HT.sIx_none _ _
 unfold cutS
 rw [h1, h2]
 show tx _ = tx _
 rw [d9]
 simp [List.take_eq_take_iff]
theorem i9 (t : List Nat) (k : Nat) : cutS (tx t) (some (k : Int)) none = tx (t.drop k) := by
 have h1 : HT.sIx (tx t).length 0 (some (k : Int)) = min k (tx t).length := HT.sIx_nat _ _ _
 have h2 : HT.sIx (tx t).length (tx t).length none = (tx t).length := HT.sIx_none _ _
 unfold cutS
 rw [h1, h2]
 show tx _ = tx _
 rw [d9, aQ]
 have e : (tx t).cps.toList = t := c0 t
 rw [e, List.take_of_length_le (by rw [List.length_drop]; exact Nat.le_refl _)]
 by_cases h : k ≤ t.length
 ·rw [Nat.min_eq_left h]
 ·rw [Nat.min_eq_right (by omega), List.drop_of_length_le (Nat.le_refl _), List.drop_of_length_le (by omega)]
theorem pj {x : List Nat} (h : x.length ≤ 9000) (k : Nat) : d7 (.str (tx x)) none (some ((k : Nat) : Int)) = some (.str (tx (x.take k))) := by
 show (if (tx x).length ≤ sizeLine then some (D.str (cutS (tx x) none (some ((k : Nat) : Int)))) else none) = _
 rw [if_pos (by rw [aQ]; exact szS (by omega)), jR]
theorem jM {x : List Nat} (h : x.length ≤ 9000) (k : Nat) : d7 (.str (tx x)) (some ((k : Nat) : Int)) none = some (.str (tx (x.drop k))) := by
 show (if (tx x).length ≤ sizeLine then some (D.str (cutS (tx x) (some ((k : Nat) : Int)) none)) else none) = _
 rw [if_pos (by rw [aQ]; exact szS (by omega)), i9]
theorem lU {N : List Str} {mf : MS} {P : D → Prop} (h : ∀ b, bt b → W mf ([.io 0 b] ++ List.replicate (N.length - 1) .un) (eL 0 fun md d x => P d ∧ bt x)) {env : En} {i : Nat} {b : D} (hb : bt b) (hr : env[i]?.bind Sl.own? = some b) :
  ∃ d x, P d ∧ bt x ∧ aj N 1 mf (cIo i aB) env = some (d, aI env i x) := by
 obtain ⟨md, d, x, ⟨hp, hx⟩, h3, _⟩ := gh (N := N) (np := 1) (mf := mf) (a := cIo i aB) (env := env) (e1 := env) (as := [.io i]) (ss := [.io 0 b]) (i := i) (j := 0)
  (by simp -implicitDefEqProofs [hr]) (by simp -implicitDefEqProofs [ay]) (by simp -implicitDefEqProofs [bN]) (by simp -implicitDefEqProofs [ax]) rfl (by simp -implicitDefEqProofs [hr]) (h b hb)
 exact ⟨d, x, hp, hx, h3⟩
def kd : Nat → List Nat
 | 0 => OR
 | k + 1 => wd k
theorem kl (b : D) (hb : bt b) : W eZ [.io 0 b, .un, .un, .un] (eL 0 fun md d x => (∃ e, dr e ∧ d = evD e) ∧ bt x) := by
 unfold eZ
 obtain ⟨v1, x1, a1, a2, a3⟩ := bO (env := [.io 0 b, .un, .un, .un]) (i := 0) (a := mC (.int 4)) (many := 4) hb rfl rfl (by omega)
 have p1 : aI [.io 0 b, .un, .un, .un] 0 x1 = [.io 0 x1, .un, .un, .un] := rfl
 rw [p1] at a3
 have hv : v1 < 4 := by omega
 have ml : ∀ env, bw (ai (mC (.str "order")) (ai (mC (.str "go")) (ai (mC (.str "fail")) (ai (mC (.str "tow")) aZ)))) env = some (.lst (sW [kd 0, kd 1, kd 2, kd 3]), env) := fun _ => rfl
 have mx : dIx (.lst (sW [kd 0, kd 1, kd 2, kd 3])) (.int (v1 : Nat)) = some (.str (tx (kd v1))) := by
  match v1, hv with
  | 0, _ => rfl
  | 1, _ => rfl
  | 2, _ => rfl
  | 3, _ => rfl
 have A : ae dIx (aa (bw (ai (mC (.str "order")) (ai (mC (.str "go")) (ai (mC (.str "fail")) (ai (mC (.str "tow")) aZ)))))) (aa (aj bE 2 bA (cIo 0 (aD (mC (.int 4)) aB)))) [.io 0 b, .un, .un, .un] = some (.str (tx (kd v1)), [.io 0 x1, .un, .un, .un]) := by
  generalize bw _ = ML at *
  generalize D.lst (sW [kd 0, kd 1, kd 2, kd 3]) = LD at *
  generalize D.str (tx (kd v1)) = KD at *
  simp -implicitDefEqProofs [ml, a3, mx]
 rw [aO, bZ, A, ak]
 refine ⟨by show 1 < 4; decide, ?_⟩
 rw [aM]
 show W _ [.io 0 x1, .imm (.str (tx (kd v1))), .un, .un] _
 have eo : ("order" : Str) = tx OR := rfl
 rw [eo]
 have q := eqT (kd v1) OR
 have T : ao (ae (aG false) (af 1) (aa (mC (.str (tx OR))))) [.io 0 x1, .imm (.str (tx (kd v1))), .un, .un] = some (decide (kd v1 = OR), [.io 0 x1, .imm (.str (tx (kd v1))), .un, .un]) := by
  generalize D.str (tx (kd v1)) = KD at *
  generalize D.str (tx OR) = RO at *
  simp -implicitDefEqProofs [q]
 rw [aO, bS, T, ak]
 by_cases h0 : v1 = 0
 ·subst h0
  rw [if_pos (by rfl)]
  have k0 : kd 0 = OR := rfl
  rw [k0]
  obtain ⟨s, x2, b1, b2, b3⟩ := bO (env := [.io 0 x1, .imm (.str (tx OR)), .un, .un]) (i := 0) (a := mC (.int 26)) (many := 26) a2 rfl rfl (by omega)
  have p2 : aI [.io 0 x1, .imm (.str (tx OR)), .un, .un] 0 x2 = [.io 0 x2, .imm (.str (tx OR)), .un, .un] := rfl
  rw [p2] at b3
  rw [aO, bZ, b3, ak]
  refine ⟨by show 2 < 4; decide, ?_⟩
  rw [aM]
  show W _ [.io 0 x2, .imm (.str (tx OR)), .imm (.int (s : Nat)), .un] _
  obtain ⟨u, x3, c1, c2, c3⟩ := bO (env := [.io 0 x2, .imm (.str (tx OR)), .imm (.int (s : Nat)), .un]) (i := 0) (a := mC (.int 25)) (many := 25) b2 rfl rfl (by omega)
  have p3 : aI [.io 0 x2, .imm (.str (tx OR)), .imm (.int (s : Nat)), .un] 0 x3 = [.io 0 x3, .imm (.str (tx OR)), .imm (.int (s : Nat)), .un] := rfl
  rw [p3] at c3
  have eg : ((s : Int) + 1 + (u : Int)) % 26 = (((s + 1 + u) % 26 : Nat) : Int) := by omega
  have md := mod_int (a := (s : Int) + 1 + (u : Int)) (b := 26) (by omega)
  rw [eg] at md
  have t := fI (a := ai (aC 1) (ai (aC 2) (ai (ae bU (aa (mBi bP (aw (aa (ae aT (aa (ae aT (af 2) (aa (mC (.int 1))))) (aa (aj bE 2 bA (cIo 0 (aD (mC (.int 25)) aB)))))) aJ))) (aa (mC (.int 26)))) aZ))) (env := [.io 0 x2, .imm (.str (tx OR)), .imm (.int (s : Nat)), .un]) (e := [.io 0 x3, .imm (.str (tx OR)), .imm (.int (s : Nat)), .un]) (xs := [.str (tx OR), .int (s : Nat), .int ((s + 1 + u) % 26 : Nat)]) (by
   generalize D.str (tx OR) = RO at *
   simp -implicitDefEqProofs [c3, md]) (by simp)
  rw [dS, t, ak, fb]
  exact ⟨x3, rfl, ⟨.ord s ((s + 1 + u) % 26), ⟨by omega, Nat.mod_lt _ (by decide)⟩, rfl⟩, c2⟩
 ·obtain ⟨k, rfl⟩ : ∃ k, v1 = k + 1 := ⟨v1 - 1, by omega⟩
  have kk : kd (k + 1) = wd k := rfl
  rw [kk]
  rw [if_neg (by simpa using fS k), bI, aM]
  obtain ⟨n, x2, b1, b2, b3⟩ := bO (env := [.io 0 x1, .imm (.str (tx (wd k))), .un, .un]) (i := 0) (a := mC (.int 1000)) (many := 1000) a2 rfl rfl (by omega)
  have p2 : aI [.io 0 x1, .imm (.str (tx (wd k))), .un, .un] 0 x2 = [.io 0 x2, .imm (.str (tx (wd k))), .un, .un] := rfl
  rw [p2] at b3
  rw [aO, bZ, b3, ak]
  refine ⟨by show 3 < 4; decide, ?_⟩
  rw [aM]
  show W _ [.io 0 x2, .imm (.str (tx (wd k))), .un, .imm (.int (n : Nat))] _
  obtain ⟨u, x3, c1, c2, c3⟩ := bO (env := [.io 0 x2, .imm (.str (tx (wd k))), .un, .imm (.int (n : Nat))]) (i := 0) (a := mC (.int 2)) (many := 2) b2 rfl rfl (by omega)
  have p3 : aI [.io 0 x2, .imm (.str (tx (wd k))), .un, .imm (.int (n : Nat))] 0 x3 = [.io 0 x3, .imm (.str (tx (wd k))), .un, .imm (.int (n : Nat))] := rfl
  rw [p3] at c3
  have T2 : ao (ae (aG false) (aa (aj bE 2 bA (cIo 0 (aD (mC (.int 2)) aB)))) (aa (mC (.int 1)))) [.io 0 x2, .imm (.str (tx (wd k))), .un, .imm (.int (n : Nat))] = some (decide ((u : Int) = 1), [.io 0 x3, .imm (.str (tx (wd k))), .un, .imm (.int (n : Nat))]) := by
   generalize D.str (tx (wd k)) = KD at *
   by_cases h : (u : Int) = 1
   ·simp -implicitDefEqProofs [c3, h]
   ·simp -implicitDefEqProofs [c3, h]
  have last : ∀ (m : Nat) (y : D), m < 1000000 → bt y → W (aN (bK (ai (aC 1) (ai (aC 3) aZ)))) [.io 0 y, .imm (.str (tx (wd k))), .un, .imm (.int (m : Nat))] (eL 0 fun md d x => (∃ e, dr e ∧ d = evD e) ∧ bt x) := fun m y hm hy => by
   have t := fI (a := ai (aC 1) (ai (aC 3) aZ)) (env := [.io 0 y, .imm (.str (tx (wd k))), .un, .imm (.int (m : Nat))]) (e := [.io 0 y, .imm (.str (tx (wd k))), .un, .imm (.int (m : Nat))]) (xs := [.str (tx (wd k)), .int (m : Nat)]) rfl (by simp)
   rw [dS, t, ak]
   exact ⟨y, rfl, ⟨.num k m, ⟨by omega, hm⟩, rfl⟩, hy⟩
  rw [aO, bS, T2, ak]
  by_cases h1 : (u : Int) = 1
  ·rw [if_pos (by simpa using h1)]
   obtain ⟨z, x4, d1, d2, d3⟩ := bO (env := [.io 0 x3, .imm (.str (tx (wd k))), .un, .imm (.int (n : Nat))]) (i := 0) (a := mC (.int 1000)) (many := 1000) c2 rfl rfl (by omega)
   have p4 : aI [.io 0 x3, .imm (.str (tx (wd k))), .un, .imm (.int (n : Nat))] 0 x4 = [.io 0 x4, .imm (.str (tx (wd k))), .un, .imm (.int (n : Nat))] := rfl
   rw [p4] at d3
   have m : bB (.int (n : Nat)) (.int 1000) = some (.int ((n : Int) * 1000)) := mul_right (by decide) (by decide)
   have DD : ae aT (aa (ae bB (af 3) (aa (mC (.int 1000))))) (aa (aj bE 2 bA (cIo 0 (aD (mC (.int 1000)) aB)))) [.io 0 x3, .imm (.str (tx (wd k))), .un, .imm (.int (n : Nat))] = some (.int ((n : Int) * 1000 + (z : Int)), [.io 0 x4, .imm (.str (tx (wd k))), .un, .imm (.int (n : Nat))]) := by
    generalize D.str (tx (wd k)) = KD at *
    simp -implicitDefEqProofs [d3, m]
   have e : ((n : Int) * 1000 + (z : Int)) = ((n * 1000 + z : Nat) : Int) := by omega
   rw [bZ, DD, ak, e]
   refine ⟨by show 3 < 4; decide, ?_⟩
   rw [aM]
   exact last (n * 1000 + z) x4 (by omega) d2
  ·rw [if_neg (by simpa using h1), bI, aM]
   exact last n x3 (by omega) c2
theorem i4 {mc : MT} {ma m : MS} {env e1 : En} {b : Bool} {Q : Fl → Prop} (h : mc env = some (b, e1)) (ht : b = true → ∃ md d e2, ma e1 = some (.ret md d e2) ∧ Q (.ret md d e2)) (hf : b = false → W m e1 Q) : W (eh mc ma m) env Q := by
 cases b with
 | true =>
  obtain ⟨md, d, e2, h1, h2⟩ := ht rfl
  refine ⟨.ret md d e2, ?_, h2⟩
  unfold eh
  rw [h, Option.bind_some]
  simp only [if_true, h1, Option.bind_some]
 | false =>
  obtain ⟨fl, h1, h2⟩ := hf rfl
  refine ⟨fl, ?_, h2⟩
  unfold eh
  rw [h, Option.bind_some]
  simpa using h1
abbrev SG : List Nat := [32, 48, 48, 49, 57, 97, 65, 90, 91, 111, 100, 101, 114, 46, 103, 45]
theorem oJ {v : Nat} (h : v < 16) : ∃ c, gm (.str " 0019aAZ[oder.g-") (.int (v : Nat)) = some (.str (tx [c])) := by
 have e : (" 0019aAZ[oder.g-" : Str) = tx SG := rfl
 rw [e]
 have hl : (tx SG).length ≤ sizeLine := szS (by rw [aQ]; decide)
 refine ⟨SG[v]'h, ?_⟩
 show (if (tx SG).length ≤ sizeLine then _ else none) = _
 rw [if_pos hl, fk, c0, List.getElem?_eq_getElem h]
 rfl
theorem lL {l : List Nat} (hl : l.length ≤ 12) (b : D) (hb : bt b) : W eA [.io 0 b, .imm (.str (tx l)), .un, .un, .un, .un] (eL 0 fun md d x => (∃ w : List Nat, w.length ≤ 100 ∧ d = .str (tx w)) ∧ bt x) := by
 unfold eA
 rw [aO, bZ, c8, ak]
 refine ⟨by show 2 < 6; decide, ?_⟩
 rw [aM]
 obtain ⟨SS, hSS⟩ : ∃ S : D, S = .str " 0019aAZ[oder.g-" := ⟨_, rfl⟩
 rw [← hSS]
 show W _ [.io 0 b, .imm (.str (tx l)), .imm SS, .un, .un, .un] _
 obtain ⟨v1, x1, a1, a2, a3⟩ := bO (env := [.io 0 b, .imm (.str (tx l)), .imm SS, .un, .un, .un]) (i := 0) (a := mC (.int 900)) (many := 900) hb rfl rfl (by omega)
 have p1 : aI [.io 0 b, .imm (.str (tx l)), .imm SS, .un, .un, .un] 0 x1 = [.io 0 x1, .imm (.str (tx l)), .imm SS, .un, .un, .un] := rfl
 rw [p1] at a3
 have zl : l.length ≤ sizeLine := szS (by omega)
 have ql : aU [.str (tx l)] = some (.int (l.length : Nat)) := by rw [len_str, aQ, if_pos zl]
 have ea : ((v1 : Int) % ((l.length : Nat) + 1 : Int)) = ((v1 % (l.length + 1) : Nat) : Int) := by
  rw [Int.natCast_emod]; rfl
 have md := mod_int (a := (v1 : Int)) (b := ((l.length : Nat) + 1 : Int)) (by omega)
 rw [ea] at md
 have A : ae bU (aa (mBi bP (aw (aa (aj bE 2 bA (cIo 0 (aD (mC (.int 900)) aB)))) aJ))) (aa (ae aT (aa (mBi aU (aw (af 1) aJ))) (aa (mC (.int 1))))) [.io 0 b, .imm (.str (tx l)), .imm SS, .un, .un, .un] = some (.int (v1 % (l.length + 1) : Nat), [.io 0 x1, .imm (.str (tx l)), .imm SS, .un, .un, .un]) := by
  generalize D.str (tx l) = LD at *
  simp -implicitDefEqProofs [a3, ql, md]
 obtain ⟨p, hp⟩ : ∃ p, p = v1 % (l.length + 1) := ⟨_, rfl⟩
 rw [← hp] at A
 rw [aO, bZ, A, ak]
 refine ⟨by show 3 < 6; decide, ?_⟩
 rw [aM]
 show W _ [.io 0 x1, .imm (.str (tx l)), .imm SS, .imm (.int (p : Nat)), .un, .un] _
 obtain ⟨v2, x2, b1, b2, b3⟩ := bO (env := [.io 0 x1, .imm (.str (tx l)), .imm SS, .imm (.int (p : Nat)), .un, .un]) (i := 0) (a := mC (.int 16)) (many := 16) a2 rfl rfl (by omega)
 have p2 : aI [.io 0 x1, .imm (.str (tx l)), .imm SS, .imm (.int (p : Nat)), .un, .un] 0 x2 = [.io 0 x2, .imm (.str (tx l)), .imm SS, .imm (.int (p : Nat)), .un, .un] := rfl
 rw [p2] at b3
 obtain ⟨c, sg⟩ := oJ (v := v2) (by omega)
 rw [← hSS] at sg
 have B : ae gm (af 2) (aa (aj bE 2 bA (cIo 0 (aD (mC (.int 16)) aB)))) [.io 0 x1, .imm (.str (tx l)), .imm SS, .imm (.int (p : Nat)), .un, .un] = some (.str (tx [c]), [.io 0 x2, .imm (.str (tx l)), .imm SS, .imm (.int (p : Nat)), .un, .un]) := by
  generalize D.str (tx l) = LD at *
  generalize D.str (tx [c]) = CD at *
  simp -implicitDefEqProofs [b3, sg]
 rw [aO, bZ, B, ak]
 refine ⟨by show 4 < 6; decide, ?_⟩
 rw [aM]
 show W _ [.io 0 x2, .imm (.str (tx l)), .imm SS, .imm (.int (p : Nat)), .imm (.str (tx [c])), .un] _
 obtain ⟨v3, x3, c1, c2, c3⟩ := bO (env := [.io 0 x2, .imm (.str (tx l)), .imm SS, .imm (.int (p : Nat)), .imm (.str (tx [c])), .un]) (i := 0) (a := mC (.int 4)) (many := 4) b2 rfl rfl (by omega)
 have p3 : aI [.io 0 x2, .imm (.str (tx l)), .imm SS, .imm (.int (p : Nat)), .imm (.str (tx [c])), .un] 0 x3 = [.io 0 x3, .imm (.str (tx l)), .imm SS, .imm (.int (p : Nat)), .imm (.str (tx [c])), .un] := rfl
 rw [p3] at c3
 rw [aO, bZ, c3, ak]
 refine ⟨by show 5 < 6; decide, ?_⟩
 rw [aM]
 obtain ⟨E, hE⟩ : ∃ E : En, E = [.io 0 x3, .imm (.str (tx l)), .imm SS, .imm (.int (p : Nat)), .imm (.str (tx [c])), .imm (.int (v3 : Nat))] := ⟨_, rfl⟩
 show W _ [.io 0 x3, .imm (.str (tx l)), .imm SS, .imm (.int (p : Nat)), .imm (.str (tx [c])), .imm (.int (v3 : Nat))] _
 have T : ∀ j : Int, dH 5 j [.io 0 x3, .imm (.str (tx l)), .imm SS, .imm (.int (p : Nat)), .imm (.str (tx [c])), .imm (.int (v3 : Nat))] = some (decide ((v3 : Int) = j), [.io 0 x3, .imm (.str (tx l)), .imm SS, .imm (.int (p : Nat)), .imm (.str (tx [c])), .imm (.int (v3 : Nat))]) := fun _ => rfl
 have s1 := pj (x := l) (by omega) p
 have s2 := jM (x := l) (by omega) p
 have s3 := jM (x := l) (by omega) (p + 1)
 have t1 : (l.take p).length ≤ 12 := by rw [List.length_take]; omega
 have t2 : (l.drop p).length ≤ 12 := by rw [List.length_drop]; omega
 have t3 : (l.drop (p + 1)).length ≤ 12 := by rw [List.length_drop]; omega
 have d1 := ey (a := l.take p) (b := [c]) (by simp; omega)
 have d2 := ey (a := l.take p ++ [c]) (b := l.drop p) (by simp; omega)
 have d3 := ey (a := l.take p) (b := l.drop (p + 1)) (by omega)
 have d4 := ey (a := l.take p ++ [c]) (b := l.drop (p + 1)) (by simp; omega)
 obtain ⟨P1, hP1⟩ : ∃ z : Int, z = ((p + 1 : Nat) : Int) := ⟨_, rfl⟩
 rw [← hP1] at s3
 have ep : ((p : Int) + 1) = P1 := by rw [hP1]; rfl
 refine i4 (T 0) (fun _ => ?_) (fun _ => i4 (T 1) (fun _ => ?_) (fun _ => i4 (T 2) (fun _ => ?_) (fun _ => ?_)))
 ·refine ⟨.imm, .str (tx (l.take p ++ [c] ++ l.drop p)), [.io 0 x3, .imm (.str (tx l)), .imm SS, .imm (.int (p : Nat)), .imm (.str (tx [c])), .imm (.int (v3 : Nat))], ?_, x3, rfl, ⟨_, ?_, rfl⟩, c2⟩
  ·unfold aN
   generalize D.str (tx (l.take p ++ [c] ++ l.drop p)) = R1 at *
   generalize D.str (tx (l.take p ++ [c])) = R2 at *
   generalize D.str (tx (l.take p)) = R3 at *
   generalize D.str (tx (l.drop p)) = R4 at *
   generalize D.str (tx [c]) = CD at *
   generalize D.str (tx l) = LD at *
   simp -implicitDefEqProofs [cy, ck, s1, s2, d1, d2]
  ·simp only [List.length_append, List.length_cons, List.length_nil]; omega
 ·refine ⟨.imm, .str (tx (l.take p ++ l.drop (p + 1))), [.io 0 x3, .imm (.str (tx l)), .imm SS, .imm (.int (p : Nat)), .imm (.str (tx [c])), .imm (.int (v3 : Nat))], ?_, x3, rfl, ⟨_, ?_, rfl⟩, c2⟩
  ·unfold aN
   generalize D.str (tx (l.take p ++ l.drop (p + 1))) = R1 at *
   generalize D.str (tx (l.take p)) = R3 at *
   generalize D.str (tx (l.drop (p + 1))) = R4 at *
   generalize D.str (tx [c]) = CD at *
   generalize D.str (tx l) = LD at *
   simp -implicitDefEqProofs [cy, ck, s1, s3, d3, ep]
  ·rw [List.length_append]; omega
 ·refine ⟨.imm, .str (tx (l.take p ++ [c] ++ l.drop (p + 1))), [.io 0 x3, .imm (.str (tx l)), .imm SS, .imm (.int (p : Nat)), .imm (.str (tx [c])), .imm (.int (v3 : Nat))], ?_, x3, rfl, ⟨_, ?_, rfl⟩, c2⟩
  ·unfold aN
   generalize D.str (tx (l.take p ++ [c] ++ l.drop (p + 1))) = R1 at *
   generalize D.str (tx (l.take p ++ [c])) = R2 at *
   generalize D.str (tx (l.take p)) = R3 at *
   generalize D.str (tx (l.drop (p + 1))) = R4 at *
   generalize D.str (tx [c]) = CD at *
   generalize D.str (tx l) = LD at *
   simp -implicitDefEqProofs [cy, ck, s1, s3, d1, d4, ep]
  ·simp only [List.length_append, List.length_cons, List.length_nil]; omega
 ·have rl := TK.replace_len (tx l) (Str.ofString " ") (tx [c])
  have l1 : (tx l).length = l.length := aQ l
  have l2 : (tx [c]).length = 1 := aQ [c]
  rw [l1, l2] at rl
  refine ⟨.ret .imm (.str (Txt.replace (tx l) (Str.ofString " ") (tx [c]))) [.io 0 x3, .imm (.str (tx l)), .imm SS, .imm (.int (p : Nat)), .imm (.str (tx [c])), .imm (.int (v3 : Nat))], ?_, x3, rfl, ⟨(Txt.replace (tx l) (Str.ofString " ") (tx [c])).cps.toList, ?_, by rw [ja]⟩, c2⟩
  ·show (if (tx l).length + ((tx l).length + 1) * (tx [c]).length ≤ 16777216 then _ else none) = _
   rw [if_pos (by rw [l1, l2]; omega)]
  ·have e : (Txt.replace (tx l) (Str.ofString " ") (tx [c])).cps.toList.length = (Txt.replace (tx l) (Str.ofString " ") (tx [c])).length := by simp [Str.length]
   rw [e]; omega
end Law
namespace Law
open PySem L2 Q
theorem kb {l : List Nat} (h : ∀ c ∈ l, c < 1000) : PyData.strOk (tx l) = true := by
 unfold PyData.strOk
 show (l.toArray).all _ = true
 rw [List.all_toArray, List.all_eq_true]
 intro c hc
 have := h c hc
 exact decide_eq_true (by omega)
theorem gx {k : Nat} {l : List Nat} (h : ∀ c ∈ l, c < 1000) (hl : l.length ≤ 30) : OkD k 30 (.str (tx l)) := by
 have hok := kb h
 refine ⟨.str (tx l), rfl, by simp -implicitDefEqProofs only [PyData.canLay0, hok], Nat.zero_le _, ?_, rfl, rfl, rfl⟩
 show (tx l).length ≤ 30
 rw [aQ]; exact hl
theorem gk {k n : Nat} (h : n < 1000000) : OkD k 30 (.int (n : Nat)) := by
 have hl := eM h
 have e : (n : Int).natAbs = n := by omega
 have hlog : n.log2 < 20 := by
  by_cases h0 : n = 0
  ·subst h0; decide
  ·exact (Nat.log2_lt h0).mpr (Nat.lt_of_lt_of_le h (by decide))
 refine ⟨.int (n : Nat), rfl, rfl, Nat.zero_le _, ?_, ?_, ?_, rfl⟩
 ·show (if ((n : Int) == 0) = true then 0 else (n : Int).natAbs.log2 + 1) ≤ 30
  rw [e]
  split <;> omega
 ·show decide ((Str.ofString (toString (n : Int))).length ≤ 13) = true
  rw [fe, aQ]
  exact decide_eq_true (by omega)
 ·exact decide_eq_true (jT h)
theorem kR : ∀ c ∈ OR, c < 1000 := by decide
theorem kG (k : Nat) : ∀ c ∈ wd k, c < 1000 := by unfold wd; split <;> decide
theorem mv {e : Ev} (h : dr e) : ∀ c ∈ lnE e, c < 1000 := by
 cases e with
 | ord s g =>
  obtain ⟨hs, hg⟩ := h
  intro c hc
  simp only [lnE, List.mem_append, List.mem_cons, List.not_mem_nil, or_false] at hc
  omega
 | num k n =>
  intro c hc
  simp only [lnE, List.mem_append, List.mem_cons] at hc
  rcases hc with hc | rfl | hc
  ·exact kG k c hc
  ·omega
  ·have := gY hc; omega
theorem lV {e : Ev} (h : dr e) : res cN cL [.imm (.str (tx (lnE e))), .imm (.str (tx (lnE e)))] [] = some (.bl true, []) :=
 fw (gx (k := 0) (mv h) (Nat.le_trans (gj h) (by decide))) (by omega) (by omega)
theorem lh {e : Ev} (h : dr e) : res cN cL [.imm (evD e), .imm (evD e)] [] = some (.bl true, []) := by
 cases e with
 | ord s g =>
  obtain ⟨hs, hg⟩ := h
  refine fw (iW (n := 0) (w := 30) (xs := [.str (tx OR), .int (s : Nat), .int (g : Nat)]) fun x hx => ?_) (by omega) (by simp)
  simp only [List.mem_cons, List.not_mem_nil, or_false] at hx
  rcases hx with rfl | rfl | rfl
  ·exact gx kR (by decide)
  ·exact gk (by omega)
  ·exact gk (by omega)
 | num k n =>
  obtain ⟨hk, hn⟩ := h
  refine fw (iW (n := 0) (w := 30) (xs := [.str (tx (wd k)), .int (n : Nat)]) fun x hx => ?_) (by omega) (by simp)
  simp only [List.mem_cons, List.not_mem_nil, or_false] at hx
  rcases hx with rfl | rfl
  ·exact gx (kG k) (Nat.le_trans (fM k) (by decide))
  ·exact gk hn
theorem qk (a b : List Nat) : aG true (.str (tx a)) (.str (tx b)) = some (.bl (!decide (a = b))) := by
 rw [ed]
 have : decide (tx a = tx b) = decide (a = b) := by rw [decide_eq_decide]; exact d9
 rw [this]; rfl
theorem kf (neg : Bool) (a : List Nat) (L : List (List Nat)) : dIn neg (.str (tx a)) (.lst (sW L)) = some (.bl (if neg then !decide (a ∈ L) else decide (a ∈ L))) := gy neg a L
theorem jn {env : En} {i : Nat} {b : D} {l : List Nat} (hl : l.length ≤ 12) (hb : bt b) (hr : env[i]?.bind Sl.own? = some b) (ha : aC 4 env = some (.str (tx l), env)) :
  ∃ (w : List Nat) (x : D), w.length ≤ 100 ∧ bt x ∧ aj eJ 2 eA (cIo i (aD (aC 4) aB)) env = some (.str (tx w), aI env i x) := by
 obtain ⟨md, d, x, ⟨⟨w, hw, rfl⟩, h2⟩, h3, _⟩ := gh (N := eJ) (np := 2) (mf := eA) (a := cIo i (aD (aC 4) aB)) (env := env) (e1 := env) (as := [.io i, .imm (.str (tx l))]) (ss := [.io 0 b, .imm (.str (tx l))]) (i := i) (j := 0)
  (by simp -implicitDefEqProofs only [nz, lR, iH, hr, ha, Option.bind_some, Option.map_some]) (by simp -implicitDefEqProofs [ay]) (by simp -implicitDefEqProofs [bN]) (by simp -implicitDefEqProofs [ax]) rfl (by simp -implicitDefEqProofs [hr]) (lL hl b hb)
 exact ⟨w, x, hw, h2, h3⟩
abbrev body : MS :=
  (av (aP 3 (aj fo 1 eZ (cIo 1 aB)))
  (av (aP 4 (aj dJ 1 da (cz 3 aB)))
  (av (bj (mOr (b9 (cb (aa (aj cN 2 cL (aD (aj eP 1 et (cz 3 aB)) (aD (aC 4) aB)))))) (b9 (cb (aa (aj cN 2 cL (aD (aj b7 1 bL (aD (aC 4) aB)) (cz 3 aB)))))))
  (aN (mC (.bl false)))
  aY)
  (av (aP 5 (aj eJ 2 eA (cIo 1 (aD (aC 4) aB))))
  (av (aP 6 (aj b7 1 bL (aD (aC 5) aB)))
  (bj (ao (ae (dIs true) (af 6) (aa (mC .non))))
  (av (bj (mOr (b9 (cb (aa (mBi gv (aw (af 6) (aw (aa (mC (.typ "tuple"))) aJ)))))) (ao (ae (dIn true) (aa (ae dIx (af 6) (aa (mC (.int 0))))) (aa (bw (ai (mC (.str "order")) (ai (mC (.str "go")) (ai (mC (.str "fail")) (ai (mC (.str "tow")) aZ)))))))))
  (aN (mC (.bl false)))
  aY)
  (bj (mOr (ao (ae (aG true) (aa (aj dJ 1 da (cz 6 aB))) (af 5))) (ao (ae (aG true) (aa (mBi aU (aw (af 6) aJ))) (aa (ae aT (aa (mC (.int 2))) (aa (mBi bP (aw (aa (ae (aG false) (aa (ae dIx (af 6) (aa (mC (.int 0))))) (aa (mC (.str "order"))))) aJ))))))))
  (aN (mC (.bl false)))
  aY))
  (bj (ao (ae (aG false) (af 5) (af 4)))
  (aN (mC (.bl false)))
  aY)))))))
theorem ll {SC b : D} {s2 s3 s4 s5 s6 : Sl} (hb : bt b) {Q : Fl → Prop} (hq : ∀ b s3 s4 s5 s6, bt b → Q (.nx [.imm SC, .own b, s2, s3, s4, s5, s6])) : W body [.imm SC, .own b, s2, s3, s4, s5, s6] Q := by
 obtain ⟨d, x1, ⟨e, he, rfl⟩, a2, a3⟩ := lU (N := fo) (mf := eZ) (P := fun d => ∃ e, dr e ∧ d = evD e) (fun b hb => kl b hb) (env := [.imm SC, .own b, s2, s3, s4, s5, s6]) (i := 1) hb rfl
 have p1 : aI [.imm SC, .own b, s2, s3, s4, s5, s6] 1 x1 = [.imm SC, .own x1, s2, s3, s4, s5, s6] := rfl
 rw [p1] at a3
 rw [aO, bZ, a3, ak]
 refine ⟨by show 3 < 7; decide, ?_⟩
 rw [aM]
 show W _ [.imm SC, .own x1, s2, .imm (evD e), s4, s5, s6] _
 have r1 := hZ he
 have r2 := ji he
 have r3 := oA he
 have q1 := lV he
 have q2 := lh he
 have hl := gj he
 obtain ⟨l, hl'⟩ : ∃ l, l = lnE e := ⟨_, rfl⟩
 rw [← hl'] at r1 r2 r3 q1 hl
 have A1 : aj dJ 1 da (cz 3 aB) [.imm SC, .own x1, s2, .imm (evD e), s4, s5, s6] = some (.str (tx l), [.imm SC, .own x1, s2, .imm (evD e), s4, s5, s6]) := by
  generalize evD e = ED at *
  generalize D.str (tx l) = LD at *
  simp -implicitDefEqProofs [dA, r1]
 rw [aO, bZ, A1, ak]
 refine ⟨by show 4 < 7; decide, ?_⟩
 rw [aM]
 show W _ [.imm SC, .own x1, s2, .imm (evD e), .imm (.str (tx l)), s5, s6] _
 have A2 : mOr (b9 (cb (aa (aj cN 2 cL (aD (aj eP 1 et (cz 3 aB)) (aD (aC 4) aB)))))) (b9 (cb (aa (aj cN 2 cL (aD (aj b7 1 bL (aD (aC 4) aB)) (cz 3 aB)))))) [.imm SC, .own x1, s2, .imm (evD e), .imm (.str (tx l)), s5, s6] = some (false, [.imm SC, .own x1, s2, .imm (evD e), .imm (.str (tx l)), s5, s6]) := by
  generalize evD e = ED at *
  generalize D.str (tx l) = LD at *
  simp -implicitDefEqProofs [dA, r2, r3, q1, q2]
 rw [aO, bS, A2, ak, if_neg (by simp), bI, aM]
 obtain ⟨w, x2, hw, b2, b3⟩ := jn (env := [.imm SC, .own x1, s2, .imm (evD e), .imm (.str (tx l)), s5, s6]) (i := 1) hl a2 rfl rfl
 have p2 : aI [.imm SC, .own x1, s2, .imm (evD e), .imm (.str (tx l)), s5, s6] 1 x2 = [.imm SC, .own x2, s2, .imm (evD e), .imm (.str (tx l)), s5, s6] := rfl
 rw [p2] at b3
 rw [aO, bZ, b3, ak]
 refine ⟨by show 5 < 7; decide, ?_⟩
 rw [aM]
 show W _ [.imm SC, .own x2, s2, .imm (evD e), .imm (.str (tx l)), .imm (.str (tx w)), s6] _
 rcases nq (w := w) (by omega) with hn | ⟨e2, he2, hw2, hr2⟩
 ·have hne : w ≠ l := fun z => by
   rw [z, r3] at hn
   cases e <;> cases hn
  have q := eqT w l
  rw [decide_eq_false hne] at q
  have A3 : aj b7 1 bL (aD (aC 5) aB) [.imm SC, .own x2, s2, .imm (evD e), .imm (.str (tx l)), .imm (.str (tx w)), s6] = some (.non, [.imm SC, .own x2, s2, .imm (evD e), .imm (.str (tx l)), .imm (.str (tx w)), s6]) := by
   generalize evD e = ED at *
   generalize D.str (tx l) = LD at *
   generalize D.str (tx w) = WD at *
   simp -implicitDefEqProofs [dA, hn]
  rw [aO, bZ, A3, ak]
  refine ⟨by show 6 < 7; decide, ?_⟩
  rw [aM]
  show W _ [.imm SC, .own x2, s2, .imm (evD e), .imm (.str (tx l)), .imm (.str (tx w)), .imm .non] _
  have T1 : ao (ae (dIs true) (af 6) (aa (mC .non))) [.imm SC, .own x2, s2, .imm (evD e), .imm (.str (tx l)), .imm (.str (tx w)), .imm .non] = some (false, [.imm SC, .own x2, s2, .imm (evD e), .imm (.str (tx l)), .imm (.str (tx w)), .imm .non]) := rfl
  have T2 : ao (ae (aG false) (af 5) (af 4)) [.imm SC, .own x2, s2, .imm (evD e), .imm (.str (tx l)), .imm (.str (tx w)), .imm .non] = some (false, [.imm SC, .own x2, s2, .imm (evD e), .imm (.str (tx l)), .imm (.str (tx w)), .imm .non]) := by
   generalize evD e = ED at *
   generalize D.str (tx l) = LD at *
   generalize D.str (tx w) = WD at *
   simp -implicitDefEqProofs [q]
  rw [bS, T1, ak, if_neg (by simp), bS, T2, ak, if_neg (by simp), bI]
  exact hq _ _ _ _ _ b2
 ·have A3 : aj b7 1 bL (aD (aC 5) aB) [.imm SC, .own x2, s2, .imm (evD e), .imm (.str (tx l)), .imm (.str (tx w)), s6] = some (evD e2, [.imm SC, .own x2, s2, .imm (evD e), .imm (.str (tx l)), .imm (.str (tx w)), s6]) := by
   generalize evD e = ED at *
   generalize evD e2 = ED2 at *
   generalize D.str (tx l) = LD at *
   generalize D.str (tx w) = WD at *
   simp -implicitDefEqProofs [dA, hr2]
  rw [aO, bZ, A3, ak]
  refine ⟨by show 6 < 7; decide, ?_⟩
  rw [aM]
  show W _ [.imm SC, .own x2, s2, .imm (evD e), .imm (.str (tx l)), .imm (.str (tx w)), .imm (evD e2)] _
  have lr := hZ he2
  rw [hw2] at lr
  have e1 := qk w w
  rw [decide_eq_true rfl] at e1
  have e1 : aG true (.str (tx w)) (.str (tx w)) = some (.bl false) := e1
  have ml : ∀ env, bw (ai (mC (.str "order")) (ai (mC (.str "go")) (ai (mC (.str "fail")) (ai (mC (.str "tow")) aZ)))) env = some (.lst (sW [OR, wd 0, wd 1, wd 2]), env) := fun _ => rfl
  have T1 : ao (ae (dIs true) (af 6) (aa (mC .non))) [.imm SC, .own x2, s2, .imm (evD e), .imm (.str (tx l)), .imm (.str (tx w)), .imm (evD e2)] = some (true, [.imm SC, .own x2, s2, .imm (evD e), .imm (.str (tx l)), .imm (.str (tx w)), .imm (evD e2)]) := by
   cases e2 <;> rfl
  have eo : ("order" : Str) = tx OR := rfl
  have facts : ∃ (wrd : List Nat) (n m : Int) (bb : Bool), dIx (evD e2) (.int 0) = some (.str (tx wrd)) ∧ gv [evD e2, .typ "tuple"] = some (.bl true) ∧ wrd ∈ [OR, wd 0, wd 1, wd 2] ∧ aU [evD e2] = some (.int n) ∧ aG false (.str (tx wrd)) (.str (tx OR)) = some (.bl bb) ∧ bP [.bl bb] = some (.int m) ∧ aT (.int 2) (.int m) = some (.int n) ∧ aG true (.int n) (.int n) = some (.bl false) := by
   cases e2 with
   | ord s g => exact ⟨OR, 3, 1, true, rfl, rfl, by simp, rfl, by rw [eqT]; rfl, rfl, rfl, rfl⟩
   | num k n =>
    refine ⟨wd k, 2, 0, false, rfl, rfl, ?_, rfl, ?_, rfl, rfl, rfl⟩
    ·have hk := he2.1
     match k, hk with
     | 0, _ => simp
     | 1, _ => simp
     | 2, _ => simp
    ·rw [eqT, decide_eq_false (fS k)]
  obtain ⟨wrd, n, m, bb, f1, f2, f3, f4, f5, f6, f7, f8⟩ := facts
  have inn := kf true wrd [OR, wd 0, wd 1, wd 2]
  rw [decide_eq_true f3] at inn
  have inn : dIn true (.str (tx wrd)) (.lst (sW [OR, wd 0, wd 1, wd 2])) = some (.bl false) := inn
  have T3 : mOr (b9 (cb (aa (mBi gv (aw (af 6) (aw (aa (mC (.typ "tuple"))) aJ)))))) (ao (ae (dIn true) (aa (ae dIx (af 6) (aa (mC (.int 0))))) (aa (bw (ai (mC (.str "order")) (ai (mC (.str "go")) (ai (mC (.str "fail")) (ai (mC (.str "tow")) aZ)))))))) [.imm SC, .own x2, s2, .imm (evD e), .imm (.str (tx l)), .imm (.str (tx w)), .imm (evD e2)] = some (false, [.imm SC, .own x2, s2, .imm (evD e), .imm (.str (tx l)), .imm (.str (tx w)), .imm (evD e2)]) := by
   obtain ⟨ML, hML⟩ : ∃ z, z = bw (ai (mC (.str "order")) (ai (mC (.str "go")) (ai (mC (.str "fail")) (ai (mC (.str "tow")) aZ)))) := ⟨_, rfl⟩
   rw [← hML] at ml ⊢
   generalize D.lst (sW [OR, wd 0, wd 1, wd 2]) = LL at *
   generalize D.str (tx wrd) = RD at *
   generalize evD e = ED at *
   generalize evD e2 = ED2 at *
   generalize D.str (tx l) = LD at *
   generalize D.str (tx w) = WD at *
   simp -implicitDefEqProofs [f1, f2, ml, inn]
  have T4 : mOr (ao (ae (aG true) (aa (aj dJ 1 da (cz 6 aB))) (af 5))) (ao (ae (aG true) (aa (mBi aU (aw (af 6) aJ))) (aa (ae aT (aa (mC (.int 2))) (aa (mBi bP (aw (aa (ae (aG false) (aa (ae dIx (af 6) (aa (mC (.int 0))))) (aa (mC (.str "order"))))) aJ))))))) [.imm SC, .own x2, s2, .imm (evD e), .imm (.str (tx l)), .imm (.str (tx w)), .imm (evD e2)] = some (false, [.imm SC, .own x2, s2, .imm (evD e), .imm (.str (tx l)), .imm (.str (tx w)), .imm (evD e2)]) := by
   rw [eo]
   generalize D.str (tx OR) = RO at *
   generalize D.str (tx wrd) = RD at *
   generalize evD e = ED at *
   generalize evD e2 = ED2 at *
   generalize D.str (tx l) = LD at *
   generalize D.str (tx w) = WD at *
   generalize D.bl bb = BB at *
   generalize D.int n = NN at *
   generalize D.int m = MM at *
   simp -implicitDefEqProofs only [dA, oQ, dj, dz, fY, dq, ec, cJ, c6, cU, bY, c8, lJ, iH, List.getElem?_cons_zero, List.getElem?_cons_succ, Option.bind_some, Option.map_some, dm, get_slot, bX, lr, e1, f1, f4, f5, f6, f7, f8, List.length_cons, List.length_nil, if_true, Bool.false_eq_true, if_false]
   first | done | simp -implicitDefEqProofs [lr, e1, f1, f4, f5, f6, f7, f8]
  rw [bS, T1, ak, if_pos rfl, aO, bS, T3, ak, if_neg (by simp), bI, aM, bS, T4, ak, if_neg (by simp), bI]
  exact hq _ _ _ _ _ b2
theorem law_true (ns : List Int) (h : ns.length ≤ 63) : ∃ env, jc (Sl.imm (.scr (ns.map D.int)) :: List.replicate (kj.length - 1) Sl.un) = some (.ret .imm (.bl true) env) := by
 suffices h : W jc [.imm (.scr (dI ns)), .un, .un, .un, .un, .un, .un] (fun fl => ∃ env, fl = .ret .imm (.bl true) env) by
  obtain ⟨fl, h1, env, rfl⟩ := h
  exact ⟨env, h1⟩
 unfold jc
 obtain ⟨b, hb, hres⟩ := nE ns 8 (by omega)
 have hres : dW dZ dY [.imm (.scr (dI ns)), .imm (.int 0), .imm (.int 8)] [] = some (.new, b, []) := hres
 have hF : jd dZ dY [.imm (.scr (dI ns)), .imm (.int 0), .imm (.int 8)] [] = some (b, []) := by
  unfold jd; rw [hres]; rfl
 generalize D.scr (dI ns) = SC at *
 have A0 : cw dZ 3 dY (aD (aC 0) (aD (mC (.int 0)) (aD (mC (.int 8)) aB))) [.imm SC, .un, .un, .un, .un, .un, .un] = some (b, [.imm SC, .un, .un, .un, .un, .un, .un]) := by
  simp -implicitDefEqProofs [pl, hF]
 rw [aO, jl, A0, ak]
 refine ⟨by show 1 < 7; decide, ?_⟩
 rw [aM]
 show W _ [.imm SC, .own b, .un, .un, .un, .un, .un] _
 rw [aO]
 obtain ⟨P, hP⟩ := inv fun k e => ∃ b s2 s3 s4 s5 s6, bt b ∧ e = [.imm SC, .own b, s2, s3, s4, s5, s6]
 show W (cF _ _ body) _ _
 refine gQ (ds := bW 0 6) (e0 := [.imm SC, .own b, .un, .un, .un, .un, .un]) (hG (n := 6) (by simp -implicitDefEqProofs) (by omega)) P (by rw [hP]; exact ⟨b, _, _, _, _, _, hb, rfl⟩) ?_ ?_
 ·intro k d e hd hp
  rw [hP] at hp
  obtain ⟨b, s2, s3, s4, s5, s6, hb, rfl⟩ := hp
  refine ⟨[.imm SC, .own b, .imm d, s3, s4, s5, s6], by rw [om, if_pos (by show 2 < 7; decide)]; rfl, ?_⟩
  refine ll hb fun b s3 s4 s5 s6 hb => ?_
  rw [nQ, hP]
  exact ⟨b, _, s3, s4, s5, s6, hb, rfl⟩
 ·intro e hp
  rw [hP] at hp
  obtain ⟨b, s2, s3, s4, s5, s6, hb, rfl⟩ := hp
  rw [aM, dS, c8, ak]
  exact ⟨_, rfl⟩
end Law
namespace Law
open PySem L2 Q
section
theorem all_mk {l : PySem.W.OpenLaw} {w : World} {K : PySem.W.Frag} {h : Heap} {mg : Str → Option Value} {fa f_zl f_zj f_zk f_zh f_ze f_zi f_zf f_za f_zc f_zb f_zd f_zg f_zm : Addr} (X : K.In h) (G : h.Ns mainGlobals mg) (hfa : mg "law" = some (.ref fa))
       {od_law_row an_law_row od_law_cell an_law_cell od_law_box an_law_box od_law_draw an_law_draw od_law_drawn an_law_drawn od_law_line an_law_line od_law_same an_law_same od_write_event an_write_event od_read_order an_read_order od_read_number an_read_number od_read_event an_read_event od_law_text an_law_text od_law an_law : Option Addr} {sl_law_row sl_law_cell sl_law_box sl_law_draw sl_law_drawn sl_law_line sl_law_same sl_write_event sl_read_order sl_read_number sl_read_event sl_law_text sl_law : Array (Option Value)} {oc_law_row kv_law_row dc_law_row pm_law_row cd_zl ct_law_row oc_law_cell kv_law_cell dc_law_cell pm_law_cell cd_zj ct_law_cell oc_law_box kv_law_box dc_law_box pm_law_box cd_zk ct_law_box oc_law_draw kv_law_draw dc_law_draw pm_law_draw cd_zh ct_law_draw oc_law_drawn kv_law_drawn dc_law_drawn pm_law_drawn cd_ze ct_law_drawn oc_law_line kv_law_line dc_law_line pm_law_line cd_zi ct_law_line oc_law_same kv_law_same dc_law_same pm_law_same cd_zf ct_law_same oc_write_event kv_write_event dc_write_event pm_write_event cd_za ct_write_event oc_read_order kv_read_order dc_read_order pm_read_order cd_zc ct_read_order oc_read_number kv_read_number dc_read_number pm_read_number cd_zb ct_read_number oc_read_event kv_read_event dc_read_event pm_read_event cd_zd ct_read_event oc_law_text kv_law_text dc_law_text pm_law_text cd_zg ct_law_text oc_law kv_law dc_law pm_law cd_zm ct_law : Value} {t_FIGURES t_LETTERS t_MOST_FIGURES : Tok} {Cc_zc Pp_zc Cc_zb Pp_zb : Addr} {vc_read_order vc_read_number : Value} {vd_read_order vd_read_number : Option Addr} {vs_zc vs_zb : Array Value} {vl_read_order vl_read_number : Array (Option Value)}
  (booked : PySem.W.nsIn K cStatics sharingNotToldKey = some none)
  (nb_any : PySem.W.nsIn K mainGlobals "any" = some none)
  (nb_int : PySem.W.nsIn K mainGlobals "int" = some none)
  (nb_isinstance : PySem.W.nsIn K mainGlobals "isinstance" = some none)
  (nb_len : PySem.W.nsIn K mainGlobals "len" = some none)
  (nb_range : PySem.W.nsIn K mainGlobals "range" = some none)
  (nb_repr : PySem.W.nsIn K mainGlobals "repr" = some none)
  (nb_str : PySem.W.nsIn K mainGlobals "str" = some none)
  (nb_tuple : PySem.W.nsIn K mainGlobals "tuple" = some none)
  (kk_FIGURES : PySem.W.nsIn K mainGlobals "FIGURES" = some (some (.str "0123456789" t_FIGURES)))
  (kk_LETTERS : PySem.W.nsIn K mainGlobals "LETTERS" = some (some (.str "ABCDEFGHIJKLMNOPQRSTUVWXYZ" t_LETTERS)))
  (kk_MOST_FIGURES : PySem.W.nsIn K mainGlobals "MOST_FIGURES" = some (some (.int 6 t_MOST_FIGURES)))
  (a_zl : PySem.W.nsIn K mainGlobals "_law_row" = some (some (.ref f_zl)))
  (l_zl : K.lookup f_zl = some ⟨oc_law_row, od_law_row, .func (PySem.W.fnOf "_law_row" "_law_row" (defArgs dG) (defBody dG) (defScope dG) .none kv_law_row dc_law_row pm_law_row an_law_row cd_zl ct_law_row), sl_law_row⟩)
  (c_zl : PySem.W.codeIn K cd_zl "_law_row" = true)
  (k_zl : PySem.W.keepIn K (.ref f_zl) = true)
  (a_zj : PySem.W.nsIn K mainGlobals "_law_cell" = some (some (.ref f_zj)))
  (l_zj : K.lookup f_zj = some ⟨oc_law_cell, od_law_cell, .func (PySem.W.fnOf "_law_cell" "_law_cell" (defArgs du) (defBody du) (defScope du) .none kv_law_cell dc_law_cell pm_law_cell an_law_cell cd_zj ct_law_cell), sl_law_cell⟩)
  (c_zj : PySem.W.codeIn K cd_zj "_law_cell" = true)
  (k_zj : PySem.W.keepIn K (.ref f_zj) = true)
  (a_zk : PySem.W.nsIn K mainGlobals "_law_box" = some (some (.ref f_zk)))
  (l_zk : K.lookup f_zk = some ⟨oc_law_box, od_law_box, .func (PySem.W.fnOf "_law_box" "_law_box" (defArgs dy) (defBody dy) (defScope dy) .none kv_law_box dc_law_box pm_law_box an_law_box cd_zk ct_law_box), sl_law_box⟩)
  (c_zk : PySem.W.codeIn K cd_zk "_law_box" = true)
  (k_zk : PySem.W.keepIn K (.ref f_zk) = true)
  (a_zh : PySem.W.nsIn K mainGlobals "_law_draw" = some (some (.ref f_zh)))
  (l_zh : K.lookup f_zh = some ⟨oc_law_draw, od_law_draw, .func (PySem.W.fnOf "_law_draw" "_law_draw" (defArgs dQ) (defBody dQ) (defScope dQ) .none kv_law_draw dc_law_draw pm_law_draw an_law_draw cd_zh ct_law_draw), sl_law_draw⟩)
  (c_zh : PySem.W.codeIn K cd_zh "_law_draw" = true)
  (k_zh : PySem.W.keepIn K (.ref f_zh) = true)
  (a_ze : PySem.W.nsIn K mainGlobals "_law_drawn" = some (some (.ref f_ze)))
  (l_ze : K.lookup f_ze = some ⟨oc_law_drawn, od_law_drawn, .func (PySem.W.fnOf "_law_drawn" "_law_drawn" (defArgs dF) (defBody dF) (defScope dF) .none kv_law_drawn dc_law_drawn pm_law_drawn an_law_drawn cd_ze ct_law_drawn), sl_law_drawn⟩)
  (c_ze : PySem.W.codeIn K cd_ze "_law_drawn" = true)
  (k_ze : PySem.W.keepIn K (.ref f_ze) = true)
  (a_zi : PySem.W.nsIn K mainGlobals "_law_line" = some (some (.ref f_zi)))
  (l_zi : K.lookup f_zi = some ⟨oc_law_line, od_law_line, .func (PySem.W.fnOf "_law_line" "_law_line" (defArgs dB) (defBody dB) (defScope dB) .none kv_law_line dc_law_line pm_law_line an_law_line cd_zi ct_law_line), sl_law_line⟩)
  (c_zi : PySem.W.codeIn K cd_zi "_law_line" = true)
  (k_zi : PySem.W.keepIn K (.ref f_zi) = true)
  (a_zf : PySem.W.nsIn K mainGlobals "_law_same" = some (some (.ref f_zf)))
  (l_zf : K.lookup f_zf = some ⟨oc_law_same, od_law_same, .func (PySem.W.fnOf "_law_same" "_law_same" (defArgs dD) (defBody dD) (defScope dD) .none kv_law_same dc_law_same pm_law_same an_law_same cd_zf ct_law_same), sl_law_same⟩)
  (c_zf : PySem.W.codeIn K cd_zf "_law_same" = true)
  (k_zf : PySem.W.keepIn K (.ref f_zf) = true)
  (a_za : PySem.W.nsIn K mainGlobals "write_event" = some (some (.ref f_za)))
  (l_za : K.lookup f_za = some ⟨oc_write_event, od_write_event, .func (PySem.W.fnOf "write_event" "write_event" (defArgs dP) (defBody dP) (defScope dP) .none kv_write_event dc_write_event pm_write_event an_write_event cd_za ct_write_event), sl_write_event⟩)
  (c_za : PySem.W.codeIn K cd_za "write_event" = true)
  (k_za : PySem.W.keepIn K (.ref f_za) = true)
  (a_zc : PySem.W.nsIn K mainGlobals "read_order" = some (some (.ref f_zc)))
  (l_zc : K.lookup f_zc = some ⟨oc_read_order, od_read_order, .func (PySem.W.fnOf "read_order" "read_order" (defArgs dd) (defBody dd) (defScope dd) .none kv_read_order dc_read_order pm_read_order an_read_order cd_zc ct_read_order), sl_read_order⟩)
  (c_zc : PySem.W.codeIn K cd_zc "read_order" = true)
  (k_zc : PySem.W.keepIn K (.ref f_zc) = true)
  (a_zb : PySem.W.nsIn K mainGlobals "read_number" = some (some (.ref f_zb)))
  (l_zb : K.lookup f_zb = some ⟨oc_read_number, od_read_number, .func (PySem.W.fnOf "read_number" "read_number" (defArgs de) (defBody de) (defScope de) .none kv_read_number dc_read_number pm_read_number an_read_number cd_zb ct_read_number), sl_read_number⟩)
  (c_zb : PySem.W.codeIn K cd_zb "read_number" = true)
  (k_zb : PySem.W.keepIn K (.ref f_zb) = true)
  (a_zd : PySem.W.nsIn K mainGlobals "read_event" = some (some (.ref f_zd)))
  (l_zd : K.lookup f_zd = some ⟨oc_read_event, od_read_event, .func (PySem.W.fnOf "read_event" "read_event" (defArgs dC) (defBody dC) (defScope dC) .none kv_read_event dc_read_event pm_read_event an_read_event cd_zd ct_read_event), sl_read_event⟩)
  (c_zd : PySem.W.codeIn K cd_zd "read_event" = true)
  (k_zd : PySem.W.keepIn K (.ref f_zd) = true)
  (a_zg : PySem.W.nsIn K mainGlobals "_law_text" = some (some (.ref f_zg)))
  (l_zg : K.lookup f_zg = some ⟨oc_law_text, od_law_text, .func (PySem.W.fnOf "_law_text" "_law_text" (defArgs dv) (defBody dv) (defScope dv) .none kv_law_text dc_law_text pm_law_text an_law_text cd_zg ct_law_text), sl_law_text⟩)
  (c_zg : PySem.W.codeIn K cd_zg "_law_text" = true)
  (k_zg : PySem.W.keepIn K (.ref f_zg) = true)
  (a_zm : PySem.W.nsIn K mainGlobals "law" = some (some (.ref f_zm)))
  (l_zm : K.lookup f_zm = some ⟨oc_law, od_law, .func (PySem.W.fnOf "law" "law" (defArgs cT) (defBody cT) (defScope cT) .none kv_law dc_law pm_law an_law cd_zm ct_law), sl_law⟩)
  (c_zm : PySem.W.codeIn K cd_zm "law" = true)
  (k_zm : PySem.W.keepIn K (.ref f_zm) = true)
  (te_zc : cd_zc = .ref Cc_zc)
  (tv_zc : K.lookup Cc_zc = some ⟨vc_read_order, vd_read_order, .fields vs_zc, vl_read_order⟩)
  (tp_zc : vs_zc[11]? = some (.ref Pp_zc))
  (te_zb : cd_zb = .ref Cc_zb)
  (tv_zb : K.lookup Cc_zb = some ⟨vc_read_number, vd_read_number, .fields vs_zb, vl_read_number⟩)
  (tp_zb : vs_zb[11]? = some (.ref Pp_zb))
  (tt_no : PySem.W.noTabs K = true) :
  ∃ fd : FuncData, (∀ (s : Shared) (v : Value), BindsTo s fd ⟨[v], []⟩ [("script", v)]) ∧ ∀ base : Heap, K.In base → base.Ns mainGlobals mg → (∀ p ∈ ([(Cc_zc, Pp_zc), (Cc_zb, Pp_zb)] : List (Addr × Addr)), GxR.TabB base mg p.1 p.2) → FnG l.prog w K mg base CX0 5 fa fd ["script"] (SpG K [(Cc_zc, Pp_zc), (Cc_zb, Pp_zb)] 63) := by
 have e := hfa.symm.trans (PySem.W.mg_of X G a_zm)
 cases e
 refine ⟨PySem.W.fnOf "law" "law" (defArgs cT) (defBody cT) (defScope cT) .none kv_law dc_law pm_law an_law cd_zm ct_law, fun s v => .of_eq rfl, fun base _ _ hTBs => ?_⟩
 let c : Pc := ⟨l.prog, w, K, mg, base, fun s => if s = eY "read_number" then some Pp_zb else (fun s => if s = eY "read_order" then some Pp_zc else (fun _ => none) s) s⟩
 have T : Txt c := {
  b_any := PySem.W.mg_none_of X G nb_any,
  b_int := PySem.W.mg_none_of X G nb_int,
  b_isinstance := PySem.W.mg_none_of X G nb_isinstance,
  b_len := PySem.W.mg_none_of X G nb_len,
  b_range := PySem.W.mg_none_of X G nb_range,
  b_repr := PySem.W.mg_none_of X G nb_repr,
  b_str := PySem.W.mg_none_of X G nb_str,
  b_tuple := PySem.W.mg_none_of X G nb_tuple,
  c_FIGURES := ⟨_, PySem.W.mg_of X G kk_FIGURES⟩,
  c_LETTERS := ⟨_, PySem.W.mg_of X G kk_LETTERS⟩,
  c_MOST_FIGURES := ⟨_, PySem.W.mg_of X G kk_MOST_FIGURES⟩,
  booked := booked }
 have hP_read_order : bp c.cl Pp_zc := ⟨"read_order", by simp (config := { decide := true }) [c, eY]⟩
 have hTB_read_order : GxR.TabB c.base c.mg Cc_zc Pp_zc := hTBs (Cc_zc, Pp_zc) (by simp)
 have tt_read_order : PySem.W.tabIn K "read_order" = some (Cc_zc, Pp_zc) := ez a_zc l_zc te_zc tv_zc tp_zc
 have hco_read_order := PySem.W.law_code X G tt_read_order (PySem.W.mg_of X G a_zc) (X _ _ l_zc) rfl
 have hP_read_number : bp c.cl Pp_zb := ⟨"read_number", by simp (config := { decide := true }) [c, eY]⟩
 have hTB_read_number : GxR.TabB c.base c.mg Cc_zb Pp_zb := hTBs (Cc_zb, Pp_zb) (by simp)
 have tt_read_number : PySem.W.tabIn K "read_number" = some (Cc_zb, Pp_zb) := ez a_zb l_zb te_zb tv_zb tp_zb
 have hco_read_number := PySem.W.law_code X G tt_read_number (PySem.W.mg_of X G a_zb) (X _ _ l_zb) rfl
 have G_zl := pW (c := c) T (fun_mk (st := dG) l_zl c_zl k_zl) (PySem.W.mg_of X G a_zl)
 have G_zj := pw (c := c) T (fun_mk (st := du) l_zj c_zj k_zj) (PySem.W.mg_of X G a_zj)
 have G_zk := qj (c := c) T (fun_mk (st := dy) l_zk c_zk k_zk) (PySem.W.mg_of X G a_zk) G_zl G_zj
 have G_zh := pU (c := c) T (fun_mk (st := dQ) l_zh c_zh k_zh) (PySem.W.mg_of X G a_zh)
 have G_ze := pZ (c := c) T (fun_mk (st := dF) l_ze c_ze k_ze) (PySem.W.mg_of X G a_ze) G_zh
 have G_zi := pL (c := c) T (fun_mk (st := dB) l_zi c_zi k_zi) (PySem.W.mg_of X G a_zi)
 have G_zf := qa (c := c) T (fun_mk (st := dD) l_zf c_zf k_zf) (PySem.W.mg_of X G a_zf)
 have G_za := px (c := c) T (fun_mk (st := dP) l_za c_za k_za) (PySem.W.mg_of X G a_za)
 have G_zc := p7 (c := c) T hP_read_order hco_read_order hTB_read_order (fun_mk (st := dd) l_zc c_zc k_zc) (PySem.W.mg_of X G a_zc)
 have G_zb := p9 (c := c) T hP_read_number hco_read_number hTB_read_number (fun_mk (st := de) l_zb c_zb k_zb) (PySem.W.mg_of X G a_zb)
 have G_zd := pO (c := c) T (fun_mk (st := dC) l_zd c_zd k_zd) (PySem.W.mg_of X G a_zd) G_zc G_zb
 have G_zg := pI (c := c) T (fun_mk (st := dv) l_zg c_zg k_zg) (PySem.W.mg_of X G a_zg) G_zh
 have L := cf (P := l.prog) (w := w) (K := K) (mg := mg) (base := base) (cl := c.cl) (k := 4) (fun_mk (st := cT) l_zm c_zm k_zm) oq (pF (c := c) T G_zk G_ze G_zi G_zf G_za G_zd G_zg)
 refine L.imp fun vs H Q E hs => ?_
 obtain ⟨a, ns, rfl, hTabs, ⟨J, hJ, hJt, hS⟩, hl, hQ⟩ := hs
 obtain ⟨env, he⟩ := law_true ns hl
 have isT : ∀ b, bp c.cl b → ∃ p ∈ ([(Cc_zc, Pp_zc), (Cc_zb, Pp_zb)] : List (Addr × Addr)), b = p.2 := fun b hb => by
  obtain ⟨x, hx⟩ := hb
  simp only [c] at hx
  split at hx
  ·cases hx; exact ⟨(Cc_zb, Pp_zb), by simp, rfl⟩
  split at hx
  ·cases hx; exact ⟨(Cc_zc, Pp_zc), by simp, rfl⟩
  cases hx
 exact kh (md := .imm) rfl (fun b hb => by obtain ⟨p, hp, rfl⟩ := isT b hb; exact hTabs p hp) ⟨J, hJ, (fun b hb => by obtain ⟨p, hp, rfl⟩ := isT b hb; exact hJt p hp), hS⟩ he hQ
theorem lD {q : Program} {l : PySem.W.OpenLaw} {w : World} {K : PySem.W.Frag} {h : Heap} {mg : Str → Option Value} {fa f_zl f_zj f_zk f_zh f_ze f_zi f_zf f_za f_zc f_zb f_zd f_zg f_zm : Addr} (X : K.In h) (G : h.Ns mainGlobals mg) (hfa : mg "law" = some (.ref fa))
       {od_law_row an_law_row od_law_cell an_law_cell od_law_box an_law_box od_law_draw an_law_draw od_law_drawn an_law_drawn od_law_line an_law_line od_law_same an_law_same od_write_event an_write_event od_read_order an_read_order od_read_number an_read_number od_read_event an_read_event od_law_text an_law_text od_law an_law : Option Addr} {sl_law_row sl_law_cell sl_law_box sl_law_draw sl_law_drawn sl_law_line sl_law_same sl_write_event sl_read_order sl_read_number sl_read_event sl_law_text sl_law : Array (Option Value)} {oc_law_row kv_law_row dc_law_row pm_law_row cd_zl ct_law_row oc_law_cell kv_law_cell dc_law_cell pm_law_cell cd_zj ct_law_cell oc_law_box kv_law_box dc_law_box pm_law_box cd_zk ct_law_box oc_law_draw kv_law_draw dc_law_draw pm_law_draw cd_zh ct_law_draw oc_law_drawn kv_law_drawn dc_law_drawn pm_law_drawn cd_ze ct_law_drawn oc_law_line kv_law_line dc_law_line pm_law_line cd_zi ct_law_line oc_law_same kv_law_same dc_law_same pm_law_same cd_zf ct_law_same oc_write_event kv_write_event dc_write_event pm_write_event cd_za ct_write_event oc_read_order kv_read_order dc_read_order pm_read_order cd_zc ct_read_order oc_read_number kv_read_number dc_read_number pm_read_number cd_zb ct_read_number oc_read_event kv_read_event dc_read_event pm_read_event cd_zd ct_read_event oc_law_text kv_law_text dc_law_text pm_law_text cd_zg ct_law_text oc_law kv_law dc_law pm_law cd_zm ct_law : Value} {t_FIGURES t_LETTERS t_MOST_FIGURES : Tok} {Cc_zc Pp_zc Cc_zb Pp_zb : Addr} {vc_read_order vc_read_number : Value} {vd_read_order vd_read_number : Option Addr} {vs_zc vs_zb : Array Value} {vl_read_order vl_read_number : Array (Option Value)}
  (booked : PySem.W.nsIn K cStatics sharingNotToldKey = some none)
  (nb_any : PySem.W.nsIn K mainGlobals "any" = some none)
  (nb_int : PySem.W.nsIn K mainGlobals "int" = some none)
  (nb_isinstance : PySem.W.nsIn K mainGlobals "isinstance" = some none)
  (nb_len : PySem.W.nsIn K mainGlobals "len" = some none)
  (nb_range : PySem.W.nsIn K mainGlobals "range" = some none)
  (nb_repr : PySem.W.nsIn K mainGlobals "repr" = some none)
  (nb_str : PySem.W.nsIn K mainGlobals "str" = some none)
  (nb_tuple : PySem.W.nsIn K mainGlobals "tuple" = some none)
  (kk_FIGURES : PySem.W.nsIn K mainGlobals "FIGURES" = some (some (.str "0123456789" t_FIGURES)))
  (kk_LETTERS : PySem.W.nsIn K mainGlobals "LETTERS" = some (some (.str "ABCDEFGHIJKLMNOPQRSTUVWXYZ" t_LETTERS)))
  (kk_MOST_FIGURES : PySem.W.nsIn K mainGlobals "MOST_FIGURES" = some (some (.int 6 t_MOST_FIGURES)))
  (a_zl : PySem.W.nsIn K mainGlobals "_law_row" = some (some (.ref f_zl)))
  (l_zl : K.lookup f_zl = some ⟨oc_law_row, od_law_row, .func (PySem.W.fnOf "_law_row" "_law_row" (defArgs dG) (defBody dG) (defScope dG) .none kv_law_row dc_law_row pm_law_row an_law_row cd_zl ct_law_row), sl_law_row⟩)
  (c_zl : PySem.W.codeIn K cd_zl "_law_row" = true)
  (k_zl : PySem.W.keepIn K (.ref f_zl) = true)
  (a_zj : PySem.W.nsIn K mainGlobals "_law_cell" = some (some (.ref f_zj)))
  (l_zj : K.lookup f_zj = some ⟨oc_law_cell, od_law_cell, .func (PySem.W.fnOf "_law_cell" "_law_cell" (defArgs du) (defBody du) (defScope du) .none kv_law_cell dc_law_cell pm_law_cell an_law_cell cd_zj ct_law_cell), sl_law_cell⟩)
  (c_zj : PySem.W.codeIn K cd_zj "_law_cell" = true)
  (k_zj : PySem.W.keepIn K (.ref f_zj) = true)
  (a_zk : PySem.W.nsIn K mainGlobals "_law_box" = some (some (.ref f_zk)))
  (l_zk : K.lookup f_zk = some ⟨oc_law_box, od_law_box, .func (PySem.W.fnOf "_law_box" "_law_box" (defArgs dy) (defBody dy) (defScope dy) .none kv_law_box dc_law_box pm_law_box an_law_box cd_zk ct_law_box), sl_law_box⟩)
  (c_zk : PySem.W.codeIn K cd_zk "_law_box" = true)
  (k_zk : PySem.W.keepIn K (.ref f_zk) = true)
  (a_zh : PySem.W.nsIn K mainGlobals "_law_draw" = some (some (.ref f_zh)))
  (l_zh : K.lookup f_zh = some ⟨oc_law_draw, od_law_draw, .func (PySem.W.fnOf "_law_draw" "_law_draw" (defArgs dQ) (defBody dQ) (defScope dQ) .none kv_law_draw dc_law_draw pm_law_draw an_law_draw cd_zh ct_law_draw), sl_law_draw⟩)
  (c_zh : PySem.W.codeIn K cd_zh "_law_draw" = true)
  (k_zh : PySem.W.keepIn K (.ref f_zh) = true)
  (a_ze : PySem.W.nsIn K mainGlobals "_law_drawn" = some (some (.ref f_ze)))
  (l_ze : K.lookup f_ze = some ⟨oc_law_drawn, od_law_drawn, .func (PySem.W.fnOf "_law_drawn" "_law_drawn" (defArgs dF) (defBody dF) (defScope dF) .none kv_law_drawn dc_law_drawn pm_law_drawn an_law_drawn cd_ze ct_law_drawn), sl_law_drawn⟩)
  (c_ze : PySem.W.codeIn K cd_ze "_law_drawn" = true)
  (k_ze : PySem.W.keepIn K (.ref f_ze) = true)
  (a_zi : PySem.W.nsIn K mainGlobals "_law_line" = some (some (.ref f_zi)))
  (l_zi : K.lookup f_zi = some ⟨oc_law_line, od_law_line, .func (PySem.W.fnOf "_law_line" "_law_line" (defArgs dB) (defBody dB) (defScope dB) .none kv_law_line dc_law_line pm_law_line an_law_line cd_zi ct_law_line), sl_law_line⟩)
  (c_zi : PySem.W.codeIn K cd_zi "_law_line" = true)
  (k_zi : PySem.W.keepIn K (.ref f_zi) = true)
  (a_zf : PySem.W.nsIn K mainGlobals "_law_same" = some (some (.ref f_zf)))
  (l_zf : K.lookup f_zf = some ⟨oc_law_same, od_law_same, .func (PySem.W.fnOf "_law_same" "_law_same" (defArgs dD) (defBody dD) (defScope dD) .none kv_law_same dc_law_same pm_law_same an_law_same cd_zf ct_law_same), sl_law_same⟩)
  (c_zf : PySem.W.codeIn K cd_zf "_law_same" = true)
  (k_zf : PySem.W.keepIn K (.ref f_zf) = true)
  (a_za : PySem.W.nsIn K mainGlobals "write_event" = some (some (.ref f_za)))
  (l_za : K.lookup f_za = some ⟨oc_write_event, od_write_event, .func (PySem.W.fnOf "write_event" "write_event" (defArgs dP) (defBody dP) (defScope dP) .none kv_write_event dc_write_event pm_write_event an_write_event cd_za ct_write_event), sl_write_event⟩)
  (c_za : PySem.W.codeIn K cd_za "write_event" = true)
  (k_za : PySem.W.keepIn K (.ref f_za) = true)
  (a_zc : PySem.W.nsIn K mainGlobals "read_order" = some (some (.ref f_zc)))
  (l_zc : K.lookup f_zc = some ⟨oc_read_order, od_read_order, .func (PySem.W.fnOf "read_order" "read_order" (defArgs dd) (defBody dd) (defScope dd) .none kv_read_order dc_read_order pm_read_order an_read_order cd_zc ct_read_order), sl_read_order⟩)
  (c_zc : PySem.W.codeIn K cd_zc "read_order" = true)
  (k_zc : PySem.W.keepIn K (.ref f_zc) = true)
  (a_zb : PySem.W.nsIn K mainGlobals "read_number" = some (some (.ref f_zb)))
  (l_zb : K.lookup f_zb = some ⟨oc_read_number, od_read_number, .func (PySem.W.fnOf "read_number" "read_number" (defArgs de) (defBody de) (defScope de) .none kv_read_number dc_read_number pm_read_number an_read_number cd_zb ct_read_number), sl_read_number⟩)
  (c_zb : PySem.W.codeIn K cd_zb "read_number" = true)
  (k_zb : PySem.W.keepIn K (.ref f_zb) = true)
  (a_zd : PySem.W.nsIn K mainGlobals "read_event" = some (some (.ref f_zd)))
  (l_zd : K.lookup f_zd = some ⟨oc_read_event, od_read_event, .func (PySem.W.fnOf "read_event" "read_event" (defArgs dC) (defBody dC) (defScope dC) .none kv_read_event dc_read_event pm_read_event an_read_event cd_zd ct_read_event), sl_read_event⟩)
  (c_zd : PySem.W.codeIn K cd_zd "read_event" = true)
  (k_zd : PySem.W.keepIn K (.ref f_zd) = true)
  (a_zg : PySem.W.nsIn K mainGlobals "_law_text" = some (some (.ref f_zg)))
  (l_zg : K.lookup f_zg = some ⟨oc_law_text, od_law_text, .func (PySem.W.fnOf "_law_text" "_law_text" (defArgs dv) (defBody dv) (defScope dv) .none kv_law_text dc_law_text pm_law_text an_law_text cd_zg ct_law_text), sl_law_text⟩)
  (c_zg : PySem.W.codeIn K cd_zg "_law_text" = true)
  (k_zg : PySem.W.keepIn K (.ref f_zg) = true)
  (a_zm : PySem.W.nsIn K mainGlobals "law" = some (some (.ref f_zm)))
  (l_zm : K.lookup f_zm = some ⟨oc_law, od_law, .func (PySem.W.fnOf "law" "law" (defArgs cT) (defBody cT) (defScope cT) .none kv_law dc_law pm_law an_law cd_zm ct_law), sl_law⟩)
  (c_zm : PySem.W.codeIn K cd_zm "law" = true)
  (k_zm : PySem.W.keepIn K (.ref f_zm) = true)
  (te_zc : cd_zc = .ref Cc_zc)
  (tv_zc : K.lookup Cc_zc = some ⟨vc_read_order, vd_read_order, .fields vs_zc, vl_read_order⟩)
  (tp_zc : vs_zc[11]? = some (.ref Pp_zc))
  (te_zb : cd_zb = .ref Cc_zb)
  (tv_zb : K.lookup Cc_zb = some ⟨vc_read_number, vd_read_number, .fields vs_zb, vl_read_number⟩)
  (tp_zb : vs_zb[11]? = some (.ref Pp_zb))
  (tt_no : PySem.W.noTabs K = true)
  (r_read_order : ∃ e, (PyProof.Rows.recsOf q).find? (fun r => r.name == ("read_order" : Str)) = some e)
  (r_read_number : ∃ e, (PyProof.Rows.recsOf q).find? (fun r => r.name == ("read_number" : Str)) = some e) :
  ∃ (fd : FuncData) (cs : List (Addr × Addr)), (∀ (s : Shared) (v : Value), BindsTo s fd ⟨[v], []⟩ [("script", v)]) ∧ (∀ p ∈ cs, ∃ (y : Str) (e : DefRec), (PyProof.Rows.recsOf q).find? (fun r => r.name == y) = some e ∧ PySem.W.tabIn K y = some p) ∧ PySem.W.noTabs K = true ∧ ∀ base : Heap, K.In base → base.Ns mainGlobals mg → (∀ p ∈ cs, GxR.TabB base mg p.1 p.2) → FnG l.prog w K mg base CX0 5 fa fd ["script"] (SpG K cs 63) := by
 obtain ⟨fd, h1, h2⟩ := all_mk (l := l) X G hfa booked nb_any nb_int nb_isinstance nb_len nb_range nb_repr nb_str nb_tuple kk_FIGURES kk_LETTERS kk_MOST_FIGURES a_zl l_zl c_zl k_zl a_zj l_zj c_zj k_zj a_zk l_zk c_zk k_zk a_zh l_zh c_zh k_zh a_ze l_ze c_ze k_ze a_zi l_zi c_zi k_zi a_zf l_zf c_zf k_zf a_za l_za c_za k_za a_zc l_zc c_zc k_zc a_zb l_zb c_zb k_zb a_zd l_zd c_zd k_zd a_zg l_zg c_zg k_zg a_zm l_zm c_zm k_zm te_zc tv_zc tp_zc te_zb tv_zb tp_zb tt_no
 refine ⟨fd, [(Cc_zc, Pp_zc), (Cc_zb, Pp_zb)], h1, fun p hp => ?_, tt_no, h2⟩
 simp only [List.mem_cons, List.not_mem_nil, or_false] at hp
 rcases hp with rfl | rfl
 ·obtain ⟨e, he⟩ := r_read_order; exact ⟨_, e, he, ez a_zc l_zc te_zc tv_zc tp_zc⟩
 ·obtain ⟨e, he⟩ := r_read_number; exact ⟨_, e, he, ez a_zb l_zb te_zb tv_zb tp_zb⟩
end
theorem walk {l : PySem.W.OpenLaw} {q : Program} {loose : List Str} {XP : (Str → Option Value) → Heap → Prop} {YP : World → Heap → Prop} {d : DefRec} {K : Params → PySem.W.Frag} (hn : l.most = some 63) (hdf : d.params.defaults = [])
  (hY : ∀ (w : World) (h : Heap), YP w h → (K w.params).In h)
  (F : ∀ (w : World) (mg : Str → Option Value) (fa : Addr) (h : Heap), (K w.params).In h → h.Ns mainGlobals mg → mg d.name = some (.ref fa) →
   ∃ (fd : FuncData) (cs : List (Addr × Addr)), (∀ (s : Shared) (u : Value), BindsTo s fd ⟨[u], []⟩ [("script", u)]) ∧ (∀ p ∈ cs, ∃ (y : Str) (e : DefRec), (PyProof.Rows.recsOf q).find? (fun r => r.name == y) = some e ∧ PySem.W.tabIn (K w.params) y = some p) ∧ PySem.W.noTabs (K w.params) = true ∧
    ∀ base : Heap, (K w.params).In base → base.Ns mainGlobals mg → (∀ p ∈ cs, GxR.TabB base mg p.1 p.2) → FnG l.prog w (K w.params) mg base CX0 5 fa fd ["script"] (SpG (K w.params) cs 63)) :
  PySem.W.WalkO q loose XP YP l.row.toRowW d [] (fun f vs => PySem.call f vs) :=
 lN (n := 63) (k := 5) (x := "script") (CX := CX0) hn (by decide) hdf ⟨rfl, by decide, by decide⟩ hY F fun _ _ _ _ z => z
theorem gW {q : Program} {y : Str} (h : ((PyProof.Rows.recsOf q).find? (fun r => r.name == y)).isSome = true) : ∃ e, (PyProof.Rows.recsOf q).find? (fun r => r.name == y) = some e := Option.isSome_iff_exists.mp h
end Law
open PySem PySem.W PyProof.Rows
set_option maxRecDepth 100000 in
set_option maxHeartbeats 0 in
theorem PySem.Challenge.cw_clearfloor_k64_lines_of_events_holds : PySem.Challenge.rw_clearfloor_k64_lines_of_events.Holds := by
 w_on; o_law; k_head; (case hw => w_witness2)
 k_fill
 refine Law.walk (l := PySem.Challenge.rw_clearfloor_k64_lines_of_events) rfl rfl (fun w h Y => PySem.W.kIn_of Y) ?F
 case F =>
  intro w mg fa h KX G hmg
  refine' Law.lD (q := ?qq) KX G hmg ?booked ?nb_any ?nb_int ?nb_isinstance ?nb_len ?nb_range ?nb_repr ?nb_str ?nb_tuple ?kk_FIGURES ?kk_LETTERS ?kk_MOST_FIGURES ?a_zl ?l_zl ?c_zl ?k_zl ?a_zj ?l_zj ?c_zj ?k_zj ?a_zk ?l_zk ?c_zk ?k_zk ?a_zh ?l_zh ?c_zh ?k_zh ?a_ze ?l_ze ?c_ze ?k_ze ?a_zi ?l_zi ?c_zi ?k_zi ?a_zf ?l_zf ?c_zf ?k_zf ?a_za ?l_za ?c_za ?k_za ?a_zc ?l_zc ?c_zc ?k_zc ?a_zb ?l_zb ?c_zb ?k_zb ?a_zd ?l_zd ?c_zd ?k_zd ?a_zg ?l_zg ?c_zg ?k_zg ?a_zm ?l_zm ?c_zm ?k_zm ?te_zc ?tv_zc ?tp_zc ?te_zb ?tv_zb ?tp_zb ?tt_no ?r_read_order ?r_read_number
  (case r_read_order => exact Law.gW (by decide +kernel))
  (case r_read_number => exact Law.gW (by decide +kernel))
  (case booked => k_is)
  (case nb_any => k_is)
  (case nb_int => k_is)
  (case nb_isinstance => k_is)
  (case nb_len => k_is)
  (case nb_range => k_is)
  (case nb_repr => k_is)
  (case nb_str => k_is)
  (case nb_tuple => k_is)
  (case kk_FIGURES => k_is)
  (case kk_LETTERS => k_is)
  (case kk_MOST_FIGURES => k_is)
  (case a_zl => k_is)
  (case l_zl => k_is)
  (case c_zl => k_is)
  (case k_zl => k_is)
  (case a_zj => k_is)
  (case l_zj => k_is)
  (case c_zj => k_is)
  (case k_zj => k_is)
  (case a_zk => k_is)
  (case l_zk => k_is)
  (case c_zk => k_is)
  (case k_zk => k_is)
  (case a_zh => k_is)
  (case l_zh => k_is)
  (case c_zh => k_is)
  (case k_zh => k_is)
  (case a_ze => k_is)
  (case l_ze => k_is)
  (case c_ze => k_is)
  (case k_ze => k_is)
  (case a_zi => k_is)
  (case l_zi => k_is)
  (case c_zi => k_is)
  (case k_zi => k_is)
  (case a_zf => k_is)
  (case l_zf => k_is)
  (case c_zf => k_is)
  (case k_zf => k_is)
  (case a_za => k_is)
  (case l_za => k_is)
  (case c_za => k_is)
  (case k_za => k_is)
  (case a_zc => k_is)
  (case l_zc => k_is)
  (case c_zc => k_is)
  (case k_zc => k_is)
  (case a_zb => k_is)
  (case l_zb => k_is)
  (case c_zb => k_is)
  (case k_zb => k_is)
  (case a_zd => k_is)
  (case l_zd => k_is)
  (case c_zd => k_is)
  (case k_zd => k_is)
  (case a_zg => k_is)
  (case l_zg => k_is)
  (case c_zg => k_is)
  (case k_zg => k_is)
  (case a_zm => k_is)
  (case l_zm => k_is)
  (case c_zm => k_is)
  (case k_zm => k_is)
  (case te_zc => exact rfl)
  (case tv_zc => k_is)
  (case tp_zc => exact rfl)
  (case te_zb => exact rfl)
  (case tv_zb => k_is)
  (case tp_zb => exact rfl)
  (case tt_no => exact rfl)
