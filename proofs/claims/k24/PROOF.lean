import PyProof.Rows.All
import Wide.All
import OpenK.AllK
import Wide.FinOn
import HandS.ForMost
import HandS.Walk
import HandS.DictComp
import HandS.AnyAll
import KE.KDictKeyed
import HandS.WideMore
import PyProof.StrBlock2
import HandS.IsInst
import HandS.StrMore
import HandS.SortInts
import PyProof.ReprRoads
import HandS.RaiseMore
import HandS.SetFor
import HandS.Deep
import KE.KDictZip
import HandS.FStr
import HandS.Replace
import HandS.Conv
import HandS.GenList
import PyProof.SumAny
import KE.KNest
import HandS.Style
import HandS.ReplaceLit
import PyProof.ToksMono
import PySem.Challenge.RW_clearfloor_k24_reports_are_read_back
import PyProof.StrLawsChain
import KE.KIntText
import PyProof.Rows.ReprOcc
import PyProof.Rows.StrIntSpec
set_option Elab.async false
set_option linter.all false
set_option maxRecDepth 100000
set_option maxHeartbeats 4000000
namespace Q
open PySem L2
/-! ## Plain data, and how it lies in a heap -/
inductive D where
  | non | bl (b : Bool) | int (i : Int) | str (s : Str)
  | lst (xs : List D) | tup (xs : List D) | scr (xs : List D)
  | dic (ks : List Key) (xs : List D)
  | obj (c : String) (ks : List Str) (xs : List D)
  | typ (n : String)
  | dcn (ks : List (List Int)) (xs : List D)
/-! ### dicts whose keys are tuples of whole numbers and truth values -/
def hashN (k : List Int) : Int := reduceHash (Builtin.Tuple.tupleHashOf (k.map hashInt))
def entN (k : List Int) (b : Addr) (u : Value) : DictEntry := ⟨hashN k, .ref b, u⟩
def entsN : List (List Int) → List Addr → List Value → List DictEntry
  | k :: ks, b :: bs, u :: us => entN k b u :: entsN ks bs us
  | _, _, _ => []
structure Raw (a : Addr) (es : List DictEntry) (h : Heap) : Prop where
  ob : ∃ o ep, h.get? a = some o ∧ o.ExactDict ∧ o.data = .dict es.toArray ep
  sm : (a == sysModules) = false
  sz : es.length ≤ sizeLine
def numV : V → Option Int
  | .int i => some i
  | .bl b => some (if b = true then 1 else 0)
  | _ => none
def KeyAt (K : PySem.W.Frag) (I : Hp) (k : List Int) (b : Addr) : Prop := ∃ vs, SqT K I b vs ∧ vs.map numV = k.map some
inductive KeysAt (K : PySem.W.Frag) (I : Hp) : List (List Int) → List Addr → Prop
  | nil : KeysAt K I [] []
  | cons {k ks b bs} : KeyAt K I k b → KeysAt K I ks bs → KeysAt K I (k :: ks) (b :: bs)
theorem sqT_mono {K : PySem.W.Frag} {I I' : Hp} {a : Addr} {vs : List V} (s : Same I I') (h : SqT K I a vs) : SqT K I' a vs := by
  rcases h with (h | ⟨o, h⟩) | h
  · exact .inl (.inl (s _ _ h))
  · exact .inl (.inr ⟨o, s _ _ h⟩)
  · exact .inr h
theorem KeysAt.mono {K : PySem.W.Frag} {I I' : Hp} (s : Same I I') : ∀ {ks : List (List Int)} {bs : List Addr}, KeysAt K I ks bs → KeysAt K I' ks bs
  | _, _, .nil => .nil
  | _, _, .cons ⟨vs, h, e⟩ t => .cons ⟨vs, sqT_mono s h, e⟩ (KeysAt.mono s t)
theorem KeysAt.length {K : PySem.W.Frag} {I : Hp} : ∀ {ks : List (List Int)} {bs : List Addr}, KeysAt K I ks bs → ks.length = bs.length
  | _, _, .nil => rfl
  | _, _, .cons _ t => by simp [KeysAt.length t]
mutual
inductive Rep (K : PySem.W.Frag) (cl : String → Option Addr) (I : Hp) : D → V → Prop
  | non : Rep K cl I .non .non
  | bl {b} : Rep K cl I (.bl b) (.bl b)
  | int {i} : Rep K cl I (.int i) (.int i)
  | str {s} : Rep K cl I (.str s) (.str s)
  | typ {n} : Rep K cl I (.typ n) (.ty n)
  | scr {a xs vs} : SqL K I a vs → Reps K cl I xs vs → Rep K cl I (.scr xs) (.ref a)
  | tup {a xs vs} : SqT K I a vs → Reps K cl I xs vs → Rep K cl I (.tup xs) (.ref a)
  | obj {d a o} : I a = some o → ObjRep K cl I d o → Rep K cl I d (.ref a)
  /-- a dict while it is walked -/
  | fz {ks xs a od o} : I a = some (.frz od o) → ObjRep K cl I (.dic ks xs) o → Rep K cl I (.dic ks xs) (.ref a)
inductive Reps (K : PySem.W.Frag) (cl : String → Option Addr) (I : Hp) : List D → List V → Prop
  | nil : Reps K cl I [] []
  | cons {d v ds vs} : Rep K cl I d v → Reps K cl I ds vs → Reps K cl I (d :: ds) (v :: vs)
inductive ObjRep (K : PySem.W.Frag) (cl : String → Option Addr) (I : Hp) : D → HO → Prop
  | lst {xs vs} : Reps K cl I xs vs → ObjRep K cl I (.lst xs) (.lst vs)
  | dic {ks xs vs} : Reps K cl I xs vs → ks.length = xs.length → ObjRep K cl I (.dic ks xs) (.dK (ks.zip vs))
  | obj {c C dx ks xs vs} : cl c = some C → Reps K cl I xs vs → ks.length = xs.length → ObjRep K cl I (.obj c ks xs) (.ins C dx (ks.zip vs))
  | dcn {a ks xs vs bs us} : KeysAt K I ks bs → Reps K cl I xs vs → Vals vs us → ks.length = xs.length → ks.Nodup → ObjRep K cl I (.dcn ks xs) (.ext (Raw a (entsN ks bs us)))
end
section
variable {K : PySem.W.Frag} {cl : String → Option Addr} {I I' : Hp}
mutual
theorem Rep.mono (s : Same I I') : ∀ {d : D} {v : V}, Rep K cl I d v → Rep K cl I' d v
  | _, _, .non => .non
  | _, _, .bl => .bl
  | _, _, .int => .int
  | _, _, .str => .str
  | _, _, .typ => .typ
  | _, _, .scr h r => .scr (s.seq h) (Reps.mono s r)
  | _, _, .tup h r => .tup (by
      rcases h with (h | ⟨o, h⟩) | h
      · exact .inl (.inl (s _ _ h))
      · exact .inl (.inr ⟨o, s _ _ h⟩)
      · exact .inr h) (Reps.mono s r)
  | _, _, .obj h r => .obj (s _ _ h) (ObjRep.mono s r)
  | _, _, .fz h r => .fz (s _ _ h) (ObjRep.mono s r)
theorem Reps.mono (s : Same I I') : ∀ {ds : List D} {vs : List V}, Reps K cl I ds vs → Reps K cl I' ds vs
  | _, _, .nil => .nil
  | _, _, .cons r t => .cons (Rep.mono s r) (Reps.mono s t)
theorem ObjRep.mono (s : Same I I') : ∀ {d : D} {o : HO}, ObjRep K cl I d o → ObjRep K cl I' d o
  | _, _, .lst r => .lst (Reps.mono s r)
  | _, _, .dic r e => .dic (Reps.mono s r) e
  | _, _, .obj c r e => .obj c (Reps.mono s r) e
  | _, _, .dcn h r v e n => .dcn (h.mono s) (Reps.mono s r) v e n
end
theorem Reps.length : ∀ {ds : List D} {vs : List V}, Reps K cl I ds vs → ds.length = vs.length
  | _, _, .nil => rfl
  | _, _, .cons _ t => by simp [Reps.length t]
theorem Reps.get : ∀ {ds : List D} {vs : List V} {i : Nat} {d : D}, Reps K cl I ds vs → ds[i]? = some d → ∃ v, vs[i]? = some v ∧ Rep K cl I d v
  | _, _, i, _, .nil, e => by simp at e
  | _, _, 0, _, .cons r _, e => by simp at e; subst e; exact ⟨_, rfl, r⟩
  | _, _, i + 1, d, .cons _ t, e => by
    obtain ⟨v, h1, h2⟩ := Reps.get (i := i) (d := d) t (by simpa using e)
    exact ⟨v, by simpa using h1, h2⟩
theorem Reps.getV : ∀ {ds : List D} {vs : List V} {i : Nat} {v : V}, Reps K cl I ds vs → vs[i]? = some v → ∃ d, ds[i]? = some d ∧ Rep K cl I d v
  | _, _, i, _, .nil, e => by simp at e
  | _, _, 0, _, .cons r _, e => by simp at e; subst e; exact ⟨_, rfl, r⟩
  | _, _, i + 1, d, .cons _ t, e => by
    obtain ⟨v, h1, h2⟩ := Reps.getV (i := i) (v := d) t (by simpa using e)
    exact ⟨v, by simpa using h1, h2⟩
theorem Reps.append : ∀ {ds es : List D} {vs us : List V}, Reps K cl I ds vs → Reps K cl I es us → Reps K cl I (ds ++ es) (vs ++ us)
  | _, _, _, _, .nil, s => s
  | _, _, _, _, .cons r t, s => .cons r (Reps.append t s)
theorem Reps.set : ∀ {ds : List D} {vs : List V} (i : Nat) {d : D} {v : V}, Rep K cl I d v → Reps K cl I ds vs → Reps K cl I (ds.set i d) (vs.set i v)
  | _, _, i, _, _, _, .nil => by cases i <;> exact .nil
  | _, _, 0, _, _, r, .cons _ t => .cons r t
  | _, _, i + 1, _, _, r, .cons q t => .cons q (Reps.set i r t)
theorem Rep.int_inv {i : Int} {v : V} (h : Rep K cl I (.int i) v) : v = .int i := by
  cases h with
  | int => rfl
  | obj _ q => cases q
theorem Rep.bl_inv {i : Bool} {v : V} (h : Rep K cl I (.bl i) v) : v = .bl i := by
  cases h with
  | bl => rfl
  | obj _ q => cases q
theorem Rep.str_inv {i : Str} {v : V} (h : Rep K cl I (.str i) v) : v = .str i := by
  cases h with
  | str => rfl
  | obj _ q => cases q
theorem Rep.non_inv {v : V} (h : Rep K cl I .non v) : v = .non := by
  cases h with
  | non => rfl
  | obj _ q => cases q
theorem Rep.typ_inv {n : String} {v : V} (h : Rep K cl I (.typ n) v) : v = .ty n := by
  cases h with
  | typ => rfl
  | obj _ q => cases q
theorem Rep.lst_inv {xs : List D} {v : V} (h : Rep K cl I (.lst xs) v) : ∃ a vs, v = .ref a ∧ I a = some (.lst vs) ∧ Reps K cl I xs vs := by
  cases h with
  | obj h q =>
    cases q with
    | lst r => exact ⟨_, _, rfl, h, r⟩
theorem Rep.scr_inv {xs : List D} {v : V} (h : Rep K cl I (.scr xs) v) : ∃ a vs, v = .ref a ∧ SqL K I a vs ∧ Reps K cl I xs vs := by
  cases h with
  | scr h r => exact ⟨_, _, rfl, h, r⟩
  | obj h q => cases q
theorem ObjRep.lst_inv {xs : List D} {o : HO} (h : ObjRep K cl I (.lst xs) o) : ∃ vs, o = .lst vs ∧ Reps K cl I xs vs := by
  cases h with
  | lst r => exact ⟨_, rfl, r⟩
theorem ObjRep.dic_inv {ks xs} {o : HO} (h : ObjRep K cl I (.dic ks xs) o) : ∃ vs, o = .dK (ks.zip vs) ∧ Reps K cl I xs vs ∧ ks.length = xs.length := by
  cases h with
  | dic r e => exact ⟨_, rfl, r, e⟩
theorem ObjRep.ob_inv {c ks xs} {o : HO} (h : ObjRep K cl I (.obj c ks xs) o) : ∃ C dx vs, o = .ins C dx (ks.zip vs) ∧ cl c = some C ∧ Reps K cl I xs vs ∧ ks.length = xs.length := by
  cases h with
  | obj c r e => exact ⟨_, _, _, rfl, c, r, e⟩
theorem ObjRep.dcn_inv {ks xs} {o : HO} (h : ObjRep K cl I (.dcn ks xs) o) : ∃ a vs bs us, o = .ext (Raw a (entsN ks bs us)) ∧ KeysAt K I ks bs ∧ Reps K cl I xs vs ∧ Vals vs us ∧ ks.length = xs.length ∧ ks.Nodup := by
  cases h with
  | dcn h r v e n => exact ⟨_, _, _, _, rfl, h, r, v, e, n⟩
theorem Rep.dcn_inv {ks xs} {v : V} (h : Rep K cl I (.dcn ks xs) v) : ∃ p a vs bs us, v = .ref p ∧ I p = some (.ext (Raw a (entsN ks bs us))) ∧ KeysAt K I ks bs ∧ Reps K cl I xs vs ∧ Vals vs us ∧ ks.length = xs.length ∧ ks.Nodup := by
  cases h with
  | obj h q =>
    obtain ⟨a, vs, bs, us, rfl, r⟩ := q.dcn_inv
    exact ⟨_, _, _, _, _, rfl, h, r⟩
theorem Rep.tup_inv {xs : List D} {v : V} (h : Rep K cl I (.tup xs) v) : ∃ a vs, v = .ref a ∧ SqT K I a vs ∧ Reps K cl I xs vs := by
  cases h with
  | tup h r => exact ⟨_, _, rfl, h, r⟩
  | obj h q => cases q
theorem Rep.dic_inv {ks xs} {v : V} (h : Rep K cl I (.dic ks xs) v) : ∃ a vs, v = .ref a ∧ Rd I a (.dK (ks.zip vs)) ∧ Reps K cl I xs vs ∧ ks.length = xs.length := by
  cases h with
  | obj h q =>
    cases q with
    | dic r e => exact ⟨_, _, rfl, .inl h, r, e⟩
  | fz h q =>
    cases q with
    | dic r e => exact ⟨_, _, rfl, .inr ⟨_, h⟩, r, e⟩
theorem Rep.ob_inv {c ks xs} {v : V} (h : Rep K cl I (.obj c ks xs) v) : ∃ a C dx vs, v = .ref a ∧ I a = some (.ins C dx (ks.zip vs)) ∧ cl c = some C ∧ Reps K cl I xs vs ∧ ks.length = xs.length := by
  cases h with
  | obj h q =>
    cases q with
    | obj c r e => exact ⟨_, _, _, _, rfl, h, c, r, e⟩
end
/-! ## Tables of code objects: the addresses that cl has under a key with a cross -/
def tabKey (x : String) : String := x ++ "#"
def IsTab (cl : String → Option Addr) (a : Addr) : Prop := ∃ x, cl (tabKey x) = some a
/-! ## Slots: what a name of the def holds, and who may change it -/
inductive Sl where
  | un | imm (d : D) | bor (d : D) | own (d : D) | lck (d : D) | io (k : Nat) (d : D)
abbrev En := List Sl
/-- the entry: what was fixed, what was there, what the callee may change -/
structure G where
  I0 : Hp
  H0 : Hp
  O : List Addr
  /-- what is held beside: a comprehension's list -/
  X : List (Addr × HO) := []
def Top (K : PySem.W.Frag) (cl : String → Option Addr) (I H : Hp) (d : D) (a : Addr) : Prop := ∃ o, H a = some o ∧ ObjRep K cl I d o
def SlotOk (K : PySem.W.Frag) (cl : String → Option Addr) (g : G) (I H : Hp) : Sl → Option V → Prop
  | .un, _ => True
  | .imm d, x => ∃ v, x = some v ∧ Rep K cl I d v
  | .bor d, x => ∃ a, x = some (.ref a) ∧ Top K cl I H d a
  | .own d, x => ∃ a o, x = some (.ref a) ∧ H a = some o ∧ ObjRep K cl I d o ∧ I a = none ∧ g.H0 a = none
  | .lck d, x => ∃ a o, x = some (.ref a) ∧ H a = some o ∧ ObjRep K cl I d o ∧ I a = none ∧ g.H0 a = none
  | .io k d, x => ∃ a o, x = some (.ref a) ∧ g.O[k]? = some a ∧ H a = some o ∧ ObjRep K cl I d o
/-- what may be changed through the slot -/
def Sl.mut : Sl → Bool
  | .own _ => true
  | .lck _ => true
  | .io _ _ => true
  | _ => false
def Sl.top : Sl → Bool
  | .own _ => true
  | .lck _ => true
  | .io _ _ => true
  | .bor _ => true
  | _ => false
structure SR (K : PySem.W.Frag) (cl : String → Option Addr) (g : G) (env : En) (σ : St) (I H : Hp) : Prop where
  sub : Same I H
  i0 : Same g.I0 I
  h0 : ∀ a o, g.H0 a = some o → a ∉ g.O → ¬ IsTab cl a → H a = some o
  hi : ∀ a o, g.H0 a = some o → g.I0 a = none → I a = none
  oh : ∀ a ∈ g.O, (∃ o, H a = some o) ∧ I a = none ∧ ∃ o, g.H0 a = some o
  len : env.length = σ.length
  at_ : ∀ (i : Nat) (s : Sl), env[i]? = some s → ∃ x : Option V, σ[i]? = some x ∧ SlotOk K cl g I H s x
  dis : ∀ (i j : Nat) (s s' : Sl) (a : Addr), i ≠ j → env[i]? = some s → env[j]? = some s' → s.mut = true → s'.top = true → σ[i]? = some (some (.ref a)) → σ[j]? = some (some (.ref a)) → False
  ex : ∀ (a : Addr) (o : HO), (a, o) ∈ g.X → H a = some o ∧ I a = none ∧ ∀ (i : Nat) (s : Sl), env[i]? = some s → s.top = true → σ[i]? ≠ some (some (.ref a))
  ex0 : ∀ (a : Addr) (o : HO), (a, o) ∈ g.X → g.H0 a = none
  tb : ∀ a, IsTab cl a → I a = none ∧ GxR.TabG H a ∧ ∃ o, g.H0 a = some o
section
variable {K : PySem.W.Frag} {cl : String → Option Addr} {g : G} {env : En} {σ : St} {I I' H H' : Hp}
/-- p is new here, and no slot's -/
structure New (g : G) (env : En) (σ : St) (I H : Hp) (p : Addr) (o : HO) : Prop where
  at_ : H p = some o
  i : I p = none
  h0 : g.H0 p = none
  no : ∀ (i : Nat) (s : Sl), env[i]? = some s → s.top = true → σ[i]? ≠ some (some (.ref p))
  x : ∀ o', (p, o') ∉ g.X
theorem SR.fresh0 (R : SR K cl g env σ I H) {p : Addr} (hp : H p = none) : g.H0 p = none := by
  cases e : g.H0 p with
  | none => rfl
  | some o =>
    by_cases hO : p ∈ g.O
    · obtain ⟨⟨o', h⟩, _⟩ := R.oh p hO
      rw [hp] at h; cases h
    · by_cases ht : IsTab cl p
      · obtain ⟨_, ⟨ps, h, _⟩, _⟩ := R.tb p ht
        rw [hp] at h; cases h
      · rw [R.h0 p o e hO ht] at hp; cases hp
theorem SR.freshO (R : SR K cl g env σ I H) {p : Addr} (hp : H p = none) : p ∉ g.O := fun hO => by
  obtain ⟨⟨o', h⟩, _⟩ := R.oh p hO
  rw [hp] at h; cases h
theorem ObjRep.notTab {d : D} {o : HO} (r : ObjRep K cl I d o) {ps : Array Value} (h : o = .tbl ps) : False := by
  subst h; cases r
theorem SR.noTab (R : SR K cl g env σ I H) {a : Addr} {d : D} {o : HO} (h : H a = some o) (r : ObjRep K cl I' d o) : ¬ IsTab cl a := fun t => by
  obtain ⟨_, ⟨ps, h1, _⟩, _⟩ := R.tb a t
  rw [h] at h1
  exact r.notTab (Option.some.inj h1)
theorem Top.mono {d : D} {a : Addr} (t : Top K cl I H d a) (s : Same I I') (s' : ∀ o, H a = some o → H' a = some o) : Top K cl I' H' d a := by
  obtain ⟨o, h, r⟩ := t
  exact ⟨o, s' _ h, r.mono s⟩
theorem Top.there {d : D} {a : Addr} (t : Top K cl I H d a) : ∃ o, H a = some o := let ⟨o, h, _⟩ := t; ⟨o, h⟩
/-- the heap has grown -/
theorem SR.grow (R : SR K cl g env σ I H) (s : Same H H') : SR K cl g env σ I H' where
  sub := R.sub.trans s
  i0 := R.i0
  h0 := fun a o h n t => s _ _ (R.h0 a o h n t)
  hi := R.hi
  oh := fun a h => let ⟨⟨o, h1⟩, h2⟩ := R.oh a h; ⟨⟨o, s _ _ h1⟩, h2⟩
  len := R.len
  at_ := fun i sl h => by
    obtain ⟨x, hx, q⟩ := R.at_ i sl h
    refine ⟨x, hx, ?_⟩
    cases sl with
    | un => trivial
    | imm d => exact q
    | bor d => obtain ⟨a, e, t⟩ := q; exact ⟨a, e, t.mono (Same.refl _) fun o => s _ o⟩
    | own d => obtain ⟨a, o, e, h1, h2⟩ := q; exact ⟨a, o, e, s _ _ h1, h2⟩
    | lck d => obtain ⟨a, o, e, h1, h2⟩ := q; exact ⟨a, o, e, s _ _ h1, h2⟩
    | io k d => obtain ⟨a, o, e, h0, h1, h2⟩ := q; exact ⟨a, o, e, h0, s _ _ h1, h2⟩
  dis := R.dis
  ex := fun a o h => let ⟨h1, h2, h3⟩ := R.ex a o h; ⟨s _ _ h1, h2, h3⟩
  ex0 := R.ex0
  tb := fun a h => let ⟨h1, ⟨ps, h2, h3⟩, h4⟩ := R.tb a h; ⟨h1, ⟨ps, s _ _ h2, h3⟩, h4⟩
theorem Same.new {H : Hp} {p : Addr} {o : HO} (h : H p = none) : Same H (upd H p o) := fun a u e => by
  rw [upd_ne (ne_of_none e h)]; exact e
/-- a new object -/
theorem SR.alloc (R : SR K cl g env σ I H) {p : Addr} (hp : H p = none) (o : HO) : SR K cl g env σ I (upd H p o) := R.grow (Same.new hp)
theorem SR.slot_ne (R : SR K cl g env σ I H) {p : Addr} (hp : H p = none) : ∀ (i : Nat) (s : Sl), env[i]? = some s → s.top = true → σ[i]? ≠ some (some (.ref p)) := fun i s h ht e => by
  obtain ⟨x, hx, q⟩ := R.at_ i s h
  rw [hx] at e
  cases e
  cases s with
  | un => cases ht
  | imm d => cases ht
  | bor d => obtain ⟨a, e, t⟩ := q; cases e; obtain ⟨o, h1⟩ := t.there; rw [hp] at h1; cases h1
  | own d => obtain ⟨a, o, e, h1, _⟩ := q; cases e; rw [hp] at h1; cases h1
  | lck d => obtain ⟨a, o, e, h1, _⟩ := q; cases e; rw [hp] at h1; cases h1
  | io k d => obtain ⟨a, o, e, _, h1, _⟩ := q; cases e; rw [hp] at h1; cases h1
/-- a new object is nobody's -/
theorem SR.new (R : SR K cl g env σ I H) {p : Addr} {o : HO} (hp : H p = none) : New g env σ I (upd H p o) p o := by
  refine ⟨upd_same, ?_, R.fresh0 hp, R.slot_ne hp, fun o' hx => by have := (R.ex p o' hx).1; rw [hp] at this; cases this⟩
  cases e : I p with
  | none => rfl
  | some u =>
    have q := R.sub p u e
    rw [q] at hp; cases hp
end
end Q
namespace Q
open PySem L2
section
variable {K : PySem.W.Frag} {cl : String → Option Addr} {g : G} {env : En} {σ : St} {I I' H H' : Hp}
theorem set_get {α : Type} {l : List α} {i j : Nat} {x y : α} (h : (l.set i x)[j]? = some y) : (j = i ∧ i < l.length ∧ y = x) ∨ (j ≠ i ∧ l[j]? = some y) := by
  by_cases e : j = i
  · subst e
    obtain ⟨h1, h2⟩ := List.getElem?_eq_some_iff.mp h
    rw [List.length_set] at h1
    rw [List.getElem_set_self] at h2
    exact .inl ⟨rfl, h1, h2.symm⟩
  · rw [List.getElem?_set_ne (Ne.symm e)] at h
    exact .inr ⟨e, h⟩
/-- a slot told otherwise -/
theorem SR.reslot (R : SR K cl g env σ I H) {i : Nat} {s s' : Sl} (hs : env[i]? = some s) (h : ∀ x, σ[i]? = some x → SlotOk K cl g I H s x → SlotOk K cl g I H s' x) (hm : s'.mut = true → s.mut = true) (ht : s'.top = true → s.top = true) :
    SR K cl g (env.set i s') σ I H where
  sub := R.sub
  i0 := R.i0
  h0 := R.h0
  hi := R.hi
  oh := R.oh
  len := by rw [List.length_set]; exact R.len
  at_ := fun j u e => by
    rcases set_get e with ⟨rfl, _, rfl⟩ | ⟨_, e⟩
    · obtain ⟨x, hx, q⟩ := R.at_ _ _ hs
      exact ⟨x, hx, h x hx q⟩
    · exact R.at_ j u e
  dis := fun j k u u' a hne e1 e2 h1 h2 => by
    rcases set_get e1 with ⟨rfl, _, rfl⟩ | ⟨n1, f1⟩
    · rcases set_get e2 with ⟨e, _, _⟩ | ⟨n2, e2⟩
      · exact absurd e.symm hne
      · exact R.dis _ k s u' a hne hs e2 (hm h1) h2
    · rcases set_get e2 with ⟨rfl, _, rfl⟩ | ⟨n2, f2⟩
      · exact R.dis j _ u s a hne f1 hs h1 (ht h2)
      · exact R.dis j k u u' a hne f1 f2 h1 h2
  ex := fun a o hx => by
    obtain ⟨h1, h2, h3⟩ := R.ex a o hx
    refine ⟨h1, h2, fun j u e hu => ?_⟩
    rcases set_get e with ⟨rfl, _, rfl⟩ | ⟨_, e⟩
    · exact h3 _ s hs (ht hu)
    · exact h3 j u e hu
  ex0 := R.ex0
  tb := R.tb
/-- a slot forgotten, its place in the frame with anything -/
theorem SR.store (R : SR K cl g env σ I H) {i : Nat} {s' : Sl} {x : Option V} (h : i < σ.length) (hs : SlotOk K cl g I H s' x)
    (hd : ∀ (a : Addr), x = some (.ref a) → s'.top = true → (∀ o, (a, o) ∉ g.X) ∧ ∀ (j : Nat) (s : Sl), j ≠ i → env[j]? = some s → s.top = true → σ[j]? ≠ some (some (.ref a))) :
    SR K cl g (env.set i s') (σ.set i x) I H where
  sub := R.sub
  i0 := R.i0
  h0 := R.h0
  hi := R.hi
  oh := R.oh
  len := by rw [List.length_set, List.length_set]; exact R.len
  at_ := fun j u e => by
    rcases set_get e with ⟨rfl, _, rfl⟩ | ⟨n, e⟩
    · exact ⟨x, List.getElem?_set_self h, hs⟩
    · rw [List.getElem?_set_ne (Ne.symm n)]
      exact R.at_ j u e
  dis := fun j k u u' a hne e1 e2 h1 h2 q1 q2 => by
    have tm : ∀ s : Sl, s.mut = true → s.top = true := fun s h => by cases s <;> first | rfl | cases h
    rcases set_get e1 with ⟨rfl, _, rfl⟩ | ⟨n1, f1⟩
    · rw [List.getElem?_set_self h] at q1
      rcases set_get e2 with ⟨e, _, _⟩ | ⟨n2, f2⟩
      · exact absurd e.symm hne
      · rw [List.getElem?_set_ne (Ne.symm n2)] at q2
        exact (hd a (Option.some.inj q1) (tm _ h1)).2 k u' n2 f2 h2 q2
    · rw [List.getElem?_set_ne (Ne.symm n1)] at q1
      rcases set_get e2 with ⟨rfl, _, rfl⟩ | ⟨n2, f2⟩
      · rw [List.getElem?_set_self h] at q2
        exact (hd a (Option.some.inj q2) h2).2 j u n1 f1 (tm _ h1) q1
      · rw [List.getElem?_set_ne (Ne.symm n2)] at q2
        exact R.dis j k u u' a hne f1 f2 h1 h2 q1 q2
  ex := fun a o hx => by
    obtain ⟨h1, h2, h3⟩ := R.ex a o hx
    refine ⟨h1, h2, fun j u e hu => ?_⟩
    rcases set_get e with ⟨rfl, _, rfl⟩ | ⟨n, e⟩
    · rw [List.getElem?_set_self h]
      intro z
      exact (hd a (Option.some.inj z) hu).1 o hx
    · rw [List.getElem?_set_ne (Ne.symm n)]
      exact h3 j u e hu
  ex0 := R.ex0
  tb := R.tb
theorem SR.setImm (R : SR K cl g env σ I H) {i : Nat} {d : D} {v : V} (h : i < σ.length) (r : Rep K cl I d v) : SR K cl g (env.set i (.imm d)) (σ.set i (some v)) I H :=
  R.store h ⟨v, rfl, r⟩ fun _ _ ht => by cases ht
theorem SR.setUn (R : SR K cl g env σ I H) {i : Nat} {x : Option V} (h : i < σ.length) : SR K cl g (env.set i .un) (σ.set i x) I H :=
  R.store h trivial fun _ _ ht => by cases ht
theorem SR.setOwn (R : SR K cl g env σ I H) {i : Nat} {d : D} {p : Addr} {o : HO} (h : i < σ.length) (n : New g env σ I H p o) (r : ObjRep K cl I d o) : SR K cl g (env.set i (.own d)) (σ.set i (some (.ref p))) I H :=
  R.store h ⟨p, o, rfl, n.at_, r, n.i, n.h0⟩ fun a e _ => by
    cases e
    exact ⟨n.x, fun j s _ hj ht => n.no j s hj ht⟩
/-- what is new is given to all -/
theorem SR.freeze (R : SR K cl g env σ I H) {p : Addr} {o : HO} (n : New g env σ I H p o) : SR K cl g env σ (upd I p o) H ∧ Same I (upd I p o) := by
  have s : Same I (upd I p o) := Same.new n.i
  have np : ∀ (i : Nat) (sl : Sl) (a : Addr), env[i]? = some sl → sl.top = true → σ[i]? = some (some (.ref a)) → a ≠ p := fun i sl a h1 h2 h3 e => by
    subst e
    exact n.no i sl h1 h2 h3
  refine ⟨⟨fun a u e => ?_, R.i0.trans s, R.h0, fun a u e1 e2 => ?_, fun a ha => ?_, R.len, fun i sl h => ?_, R.dis, fun a u hx => ?_, R.ex0, fun a ht => ?_⟩, s⟩
  rotate_right
  · obtain ⟨h1, h2, u, h3⟩ := R.tb a ht
    have h : a ≠ p := fun z => by subst z; rw [n.h0] at h3; cases h3
    rw [upd_ne h]; exact ⟨h1, h2, u, h3⟩
  rotate_right
  · obtain ⟨h1, h2, h3⟩ := R.ex a u hx
    refine ⟨h1, ?_, h3⟩
    rw [upd_ne (fun z => by subst z; exact n.x u hx)]
    exact h2
  · by_cases h : a = p
    · subst h; rw [upd_same] at e; cases e; exact n.at_
    · rw [upd_ne h] at e; exact R.sub a u e
  · have h : a ≠ p := fun z => by subst z; rw [n.h0] at e1; cases e1
    rw [upd_ne h]; exact R.hi a u e1 e2
  · obtain ⟨h1, h2, u, h3⟩ := R.oh a ha
    have h : a ≠ p := fun z => by subst z; rw [n.h0] at h3; cases h3
    rw [upd_ne h]; exact ⟨h1, h2, u, h3⟩
  · obtain ⟨x, hx, q⟩ := R.at_ i sl h
    refine ⟨x, hx, ?_⟩
    cases sl with
    | un => trivial
    | imm d => obtain ⟨v, e, r⟩ := q; exact ⟨v, e, r.mono s⟩
    | bor d => obtain ⟨a, e, t⟩ := q; exact ⟨a, e, t.mono s fun _ h => h⟩
    | own d =>
      obtain ⟨a, u, e, h1, h2, h3, h4⟩ := q
      subst e
      exact ⟨a, u, rfl, h1, h2.mono s, by rw [upd_ne (np i _ a h rfl hx)]; exact h3, h4⟩
    | lck d =>
      obtain ⟨a, u, e, h1, h2, h3, h4⟩ := q
      subst e
      exact ⟨a, u, rfl, h1, h2.mono s, by rw [upd_ne (np i _ a h rfl hx)]; exact h3, h4⟩
    | io k d => obtain ⟨a, u, e, h0, h1, h2⟩ := q; exact ⟨a, u, e, h0, h1, h2.mono s⟩
/-- an own object is given to all: from here on it stands still -/
theorem SR.frz (R : SR K cl g env σ I H) {i : Nat} {d : D} (hs : env[i]? = some (.own d)) : ∃ a o, σ[i]? = some (some (.ref a)) ∧ SR K cl g (env.set i (.imm d)) σ (upd I a o) H ∧ Same I (upd I a o) ∧ Rep K cl (upd I a o) d (.ref a) := by
  obtain ⟨x, hx, a, o, rfl, h1, h2, h3, h4⟩ := R.at_ i _ hs
  have R1 : SR K cl g (env.set i .un) σ I H := R.reslot (s' := .un) hs (fun _ _ _ => trivial) (fun z => by cases z) (fun z => by cases z)
  have hil : i < env.length := (List.getElem?_eq_some_iff.mp hs).1
  have n : New g (env.set i .un) σ I H a o := ⟨h1, h3, h4, fun j s hj ht => by
    rcases set_get hj with ⟨rfl, _, rfl⟩ | ⟨ne, hj⟩
    · cases ht
    · exact fun z => R.dis i j _ s a (Ne.symm ne) hs hj rfl ht hx z, fun o' hX => (R.ex a o' hX).2.2 i _ hs rfl hx⟩
  obtain ⟨R2, s2⟩ := R1.freeze n
  have r : Rep K cl (upd I a o) d (.ref a) := .obj upd_same (h2.mono s2)
  refine ⟨a, o, hx, ?_, s2, r⟩
  have R3 := R2.reslot (i := i) (s := .un) (s' := .imm d) (List.getElem?_set_self hil) (fun y hy _ => ⟨.ref a, by rw [hx] at hy; exact (Option.some.inj hy).symm, r⟩) (fun z => by cases z) (fun z => by cases z)
  rw [List.set_set] at R3
  exact R3
/-- the data of a slot, changed -/
def Sl.put : Sl → D → Sl
  | .own _, d => .own d
  | .io k _, d => .io k d
  | s, _ => s
def Sl.own? : Sl → Option D
  | .own d => some d
  | .io _ d => some d
  | _ => none
theorem own_at (R : SR K cl g env σ I H) {i : Nat} {s : Sl} {d : D} (hs : env[i]? = some s) (ho : s.own? = some d) :
    ∃ a o, σ[i]? = some (some (.ref a)) ∧ H a = some o ∧ ObjRep K cl I d o ∧ I a = none := by
  obtain ⟨x, hx, q⟩ := R.at_ i s hs
  cases s with
  | own d' =>
    cases ho
    obtain ⟨a, u, rfl, h1, h2, h3, h4⟩ := q
    exact ⟨a, u, hx, h1, h2, h3⟩
  | io k d' =>
    cases ho
    obtain ⟨a, u, rfl, h0, h1, h2⟩ := q
    exact ⟨a, u, hx, h1, h2, (R.oh a (List.mem_of_getElem? h0)).2.1⟩
  | un => cases ho
  | imm => cases ho
  | bor => cases ho
  | lck => cases ho
/-- the object of an own slot is changed -/
theorem SR.mutate (R : SR K cl g env σ I H) {i : Nat} {s : Sl} {d d' : D} {a : Addr} {o' : HO} (hs : env[i]? = some s) (ho : s.own? = some d) (ha : σ[i]? = some (some (.ref a))) (r : ObjRep K cl I d' o') :
    SR K cl g (env.set i (s.put d')) σ I (upd H a o') := by
  obtain ⟨a', o, ha', h1, h2, h3⟩ := own_at R hs ho
  rw [ha] at ha'
  cases ha'
  have sm : s.mut = true ∧ s.top = true := by cases s <;> first | exact ⟨rfl, rfl⟩ | cases ho
  have pm : (s.put d').mut = true ∧ (s.put d').top = true := by cases s <;> first | exact ⟨rfl, rfl⟩ | cases ho
  have ne : ∀ (j : Nat) (u : Sl) (b : Addr), j ≠ i → env[j]? = some u → u.top = true → σ[j]? = some (some (.ref b)) → b ≠ a := fun j u b hj k1 k2 k3 e => by
    rw [e] at k3
    exact R.dis i j s u a (Ne.symm hj) hs k1 sm.1 k2 ha k3
  have nt : ¬ IsTab cl a := R.noTab h1 h2
  have h00 : ∀ b u, g.H0 b = some u → b ∉ g.O → b ≠ a := fun b u e1 e2 z => by
    subst z
    obtain ⟨x, hx, q⟩ := R.at_ i s hs
    cases s with
    | own d' => obtain ⟨a, v, rfl, _, _, _, h4⟩ := q; rw [ha] at hx; cases hx; rw [h4] at e1; cases e1
    | io k d' => obtain ⟨a, v, rfl, h0, _⟩ := q; rw [ha] at hx; cases hx; exact e2 (List.mem_of_getElem? h0)
    | un => cases ho
    | imm => cases ho
    | bor => cases ho
    | lck => cases ho
  refine ⟨fun b u e => ?_, R.i0, fun b u e1 e2 e3 => ?_, R.hi, fun b hb => ?_, by rw [List.length_set]; exact R.len, fun j u e => ?_, fun j k u u' b hne e1 e2 m1 m2 => ?_, fun b u hx => ?_, R.ex0, fun b ht => ?_⟩
  rotate_right
  · obtain ⟨t1, ⟨ps, t2, t3⟩, t4⟩ := R.tb b ht
    have hb : b ≠ a := fun z => nt (z ▸ ht)
    exact ⟨t1, ⟨ps, by rw [upd_ne hb]; exact t2, t3⟩, t4⟩
  rotate_right
  · obtain ⟨h1, h2, h3⟩ := R.ex b u hx
    have hb : b ≠ a := fun z => by rw [z] at h3; exact h3 i s hs sm.2 ha
    refine ⟨by rw [upd_ne hb]; exact h1, h2, fun j v e hv => ?_⟩
    rcases set_get e with ⟨rfl, _, rfl⟩ | ⟨n, e⟩
    · exact h3 _ s hs sm.2
    · exact h3 j v e hv
  · rw [upd_ne (fun z => by subst z; rw [h3] at e; cases e)]; exact R.sub b u e
  · rw [upd_ne (h00 b u e1 e2)]; exact R.h0 b u e1 e2 e3
  · obtain ⟨⟨u, q1⟩, q2⟩ := R.oh b hb
    by_cases z : b = a
    · subst z; exact ⟨⟨o', upd_same⟩, q2⟩
    · rw [upd_ne z]; exact ⟨⟨u, q1⟩, q2⟩
  · rcases set_get e with ⟨rfl, _, rfl⟩ | ⟨n, e⟩
    · obtain ⟨x, hx, q⟩ := R.at_ j s hs
      refine ⟨x, hx, ?_⟩
      cases s with
      | own d' => obtain ⟨b, v, hb, _, _, q3, q4⟩ := q; subst hb; rw [ha] at hx; cases hx; exact ⟨_, o', rfl, upd_same, r, q3, q4⟩
      | io k d' => obtain ⟨b, v, hb, q0, _⟩ := q; subst hb; rw [ha] at hx; cases hx; exact ⟨_, o', rfl, q0, upd_same, r⟩
      | un => cases ho
      | imm => cases ho
      | bor => cases ho
      | lck => cases ho
    · obtain ⟨x, hx, q⟩ := R.at_ j u e
      refine ⟨x, hx, ?_⟩
      cases u with
      | un => trivial
      | imm d => exact q
      | bor d =>
        obtain ⟨b, rfl, t⟩ := q
        exact ⟨b, rfl, t.mono (Same.refl _) fun v hv => by rw [upd_ne (ne j _ b n e rfl hx)]; exact hv⟩
      | own d => obtain ⟨b, v, rfl, q1, q2⟩ := q; exact ⟨b, v, rfl, by rw [upd_ne (ne j _ b n e rfl hx)]; exact q1, q2⟩
      | lck d => obtain ⟨b, v, rfl, q1, q2⟩ := q; exact ⟨b, v, rfl, by rw [upd_ne (ne j _ b n e rfl hx)]; exact q1, q2⟩
      | io k d => obtain ⟨b, v, rfl, q0, q1, q2⟩ := q; exact ⟨b, v, rfl, q0, by rw [upd_ne (ne j _ b n e rfl hx)]; exact q1, q2⟩
  · rcases set_get e1 with ⟨rfl, _, rfl⟩ | ⟨n1, f1⟩
    · rcases set_get e2 with ⟨e, _, _⟩ | ⟨n2, f2⟩
      · exact absurd e.symm hne
      · exact R.dis _ k s u' b hne hs f2 sm.1 m2
    · rcases set_get e2 with ⟨rfl, _, rfl⟩ | ⟨n2, f2⟩
      · exact R.dis j _ u s b hne f1 hs m1 sm.2
      · exact R.dis j k u u' b hne f1 f2 m1 m2
end
/-! ## Judgements -/
/-- what stays the same for all contexts of a def's body, or of a block in it -/
structure Zc where
  P : Program
  w : World
  K : PySem.W.Frag
  mg : Str → Option Value
  base : Heap
  N : List Str
  sc : Scope
  k : Nat
  cl : String → Option Addr
  all : Bool
  /-- the running def's code object and its table, where the def makes generators -/
  me : Option (Addr × Addr)
structure InF (Z : Zc) (X : Cx) : Prop where
  prog : X.prog = Z.P
  w : X.w = Z.w
  K : X.K = Z.K
  mg : X.mg = Z.mg
  base : X.base = Z.base
  N : X.N = Z.N
  sc : X.env.scope = Z.sc
  calm : X.calm = true
  room : Room Z.k X.A
  nd : X.N.Nodup
  fn : Z.all = true → ∀ x, X.fn x = true
  own : PassesOwn (model X.prog X.w) X.A X.env X.xe
  gd : X.A.guards = some []
  cd : ∀ c P, Z.me = some (c, P) → X.env.code = .ref c ∧ GxR.TabB X.base X.mg c P ∧ IsTab Z.cl P
abbrev ME := En → Option (D × En)
abbrev MT := En → Option (Bool × En)
/-- an expression: its value, fixed -/
def SE (Z : Zc) (t : TE) (m : ME) : Prop := ∀ (g : G) (env : En) (σ : St) (I H : Hp) (Q : VK) (d : D) (env' : En), SR Z.K Z.cl g env σ I H → m env = some (d, env') →
  (∀ v I' H', SR Z.K Z.cl g env' σ I' H' → Same I I' → Rep Z.K Z.cl I' d v → Q v H') → t σ H Q
/-- .. a new object, nobody's -/
def SF (Z : Zc) (t : TE) (m : ME) : Prop := ∀ (g : G) (env : En) (σ : St) (I H : Hp) (Q : VK) (d : D) (env' : En), SR Z.K Z.cl g env σ I H → m env = some (d, env') →
  (∀ p o I' H', SR Z.K Z.cl g env' σ I' H' → Same I I' → New g env' σ I' H' p o → ObjRep Z.K Z.cl I' d o → Q (.ref p) H') → t σ H Q
def ST (Z : Zc) (t : TT) (m : MT) : Prop := ∀ (g : G) (env : En) (σ : St) (I H : Hp) (Q : Bool → Hp → Prop) (b : Bool) (env' : En), SR Z.K Z.cl g env σ I H → m env = some (b, env') →
  (∀ I' H', SR Z.K Z.cl g env' σ I' H' → Same I I' → Q b H') → t σ H Q
def EV (Z : Zc) (e : Expr) (m : ME) : Prop := ∃ t, (∀ X, InF Z X → PE X e t) ∧ SE Z t m
def EF (Z : Zc) (e : Expr) (m : ME) : Prop := ∃ t, (∀ X, InF Z X → PE X e t) ∧ SF Z t m
def TV (Z : Zc) (e : Expr) (m : MT) : Prop := ∃ t, (∀ X, InF Z X → PT X e t) ∧ ST Z t m
theorem SF.se {Z : Zc} {t : TE} {m : ME} (h : SF Z t m) : SE Z t m := fun g env σ I H Q d env' R hm k =>
  h g env σ I H Q d env' R hm fun p o I' H' R' s n r => by
    obtain ⟨R2, s2⟩ := R'.freeze n
    exact k _ _ _ R2 (s.trans s2) (.obj upd_same (r.mono s2))
theorem EF.ev {Z : Zc} {e : Expr} {m : ME} (h : EF Z e m) : EV Z e m := let ⟨t, h1, h2⟩ := h; ⟨t, h1, h2.se⟩
/-- what a return hands out: a fixed value, a new object, -/
inductive Md where | imm | new
inductive Fl where
  | nx (env : En) | bk (env : En) | ct (env : En) | ret (md : Md) (d : D) (env : En)
abbrev MS := En → Option Fl
def RetOk (Z : Zc) (g : G) (env : En) (σ : St) (I H : Hp) : Md → D → V → Prop
  | .imm, d, v => Rep Z.K Z.cl I d v
  | .new, d, v => ∃ p o, v = .ref p ∧ New g env σ I H p o ∧ ObjRep Z.K Z.cl I d o
def Post (Z : Zc) (g : G) (I : Hp) (D : Ends) : Fl → Prop
  | .nx env => ∀ σ' I' H', SR Z.K Z.cl g env σ' I' H' → Same I I' → D.nx σ' H'
  | .bk env => ∀ σ' I' H', SR Z.K Z.cl g env σ' I' H' → Same I I' → D.bk σ' H'
  | .ct env => ∀ σ' I' H', SR Z.K Z.cl g env σ' I' H' → Same I I' → D.ct σ' H'
  | .ret md d env => ∀ σ' I' H' v, SR Z.K Z.cl g env σ' I' H' → Same I I' → RetOk Z g env σ' I' H' md d v → D.rt v H'
def SS (Z : Zc) (t : TS) (m : MS) : Prop := ∀ (g : G) (env : En) (σ : St) (I H : Hp) (D : Ends) (fl : Fl), SR Z.K Z.cl g env σ I H → m env = some fl → Post Z g I D fl → t D σ H
def SV (Z : Zc) (st : Stmt) (m : MS) : Prop := ∃ t, (∀ X, InF Z X → PS X st t) ∧ SS Z t m
def BV (Z : Zc) (sts : List Stmt) (m : MS) : Prop := ∃ t, (∀ X, InF Z X → PSs X sts t) ∧ SS Z t m
theorem Post.mono {Z : Zc} {g : G} {I I' : Hp} {D : Ends} {fl : Fl} (s : Same I I') (h : Post Z g I D fl) : Post Z g I' D fl := by
  cases fl with
  | nx env => exact fun σ' J H' R e => h σ' J H' R (s.trans e)
  | bk env => exact fun σ' J H' R e => h σ' J H' R (s.trans e)
  | ct env => exact fun σ' J H' R e => h σ' J H' R (s.trans e)
  | ret md d env => exact fun σ' J H' v R e => h σ' J H' v R (s.trans e)
end Q
namespace Q
open PySem PySem.Spec PyProof.Rows L2
/-! ## Defs where no repr is under way: the stack bears none of its marks -/
abbrev Calmy (A : Around) : Prop := A.guards = some []
structure FnG (P : Program) (w : World) (K : PySem.W.Frag) (mg : Str → Option Value) (base : Heap) (CX : CXT) (k : Nat) (f : Addr) (fd : FuncData) (ps : List Str) (sp : Sp) : Prop where
  ar : ∀ {vs H Q E}, sp vs H Q E → vs.length = ps.length
  go : ∀ {A : Around} {outer : List Env} {s : Shared} {H : Hp} {args : Args} {us : List Value} {vs : List V} {Q : VK} {E : XK}, Room k A → Calmy A →
    Env0 P w K mg base A outer s H → BindsTo s fd args (ps.zip us) → Vals vs us → sp vs H Q E → codeAny (model P w) A (.call (.ref f) args) (CR CX outer P w H s Q E) s
section
variable {P : Program} {w : World} {K : PySem.W.Frag} {mg : Str → Option Value} {base : Heap} {CX : CXT} {j k : Nat} {f : Addr} {fd : FuncData} {ps : List Str} {sp sp' : Sp}
theorem FnG.mono (F : FnG P w K mg base CX j f fd ps sp) (h : j ≤ k) : FnG P w K mg base CX k f fd ps sp := ⟨F.ar, fun hr => F.go (hr.mono h)⟩
theorem FnG.imp (F : FnG P w K mg base CX k f fd ps sp) (h : ∀ vs H Q E, sp' vs H Q E → sp vs H Q E) : FnG P w K mg base CX k f fd ps sp' :=
  ⟨fun q => F.ar (h _ _ _ _ q), fun a1 a2 a3 a4 a5 a6 => F.go a1 a2 a3 a4 a5 (h _ _ _ _ a6)⟩
end
section
variable {X : Cx} {CX : CXT} {k : Nat} {f C : Addr} {fd : FuncData} {ps : List Str} {sp : Sp} {E : XK} {x m : Str} {p pos apos : Pos} {e o : Expr} {es : List Expr} {ta : TE} {t : TA}
  {pins : List (Addr × Obj)} {σ : L2.St} {H : Hp} {s : Shared} {Q : VK} {us : List Value} {vs : List V}
theorem binds0 (hb : Binds X.K fd ps []) (I : Inv X pins σ H s) (h : us.length = ps.length) : BindsTo s fd ⟨us, []⟩ (ps.zip us) := by
  have := hb s us I.kIn (by rw [List.append_nil]; exact h)
  rwa [List.append_nil] at this
theorem FnG.runs (F : FnG X.prog X.w X.K X.mg X.base CX k f fd ps sp) (hr : Room k X.A) (g : Calmy X.A) (hb : Binds X.K fd ps []) (hx : Passes CX X E) (I : Inv X pins σ H s) (r : Vals vs us)
    (h : sp vs H Q E) : wpAny (model X.prog X.w) X.A (call (.ref f) us) (EP X pins σ Q) X.xe s :=
  wpAny_call (codeAny_mono (F.go hr g I.env0 (binds0 hb I (r.length.symm.trans (F.ar h))) r h) fun a b q => match a, q with
    | .error e, q => hx pins σ H s e b I q
    | .ok (.ret u), q => I.after q
    | .ok .next, q => q.elim
    | .ok .brk, q => q.elim
    | .ok .cont, q => q.elim)
theorem FnG.pe (F : FnG X.prog X.w X.K X.mg X.base CX k f fd ps sp) (hr : Room k X.A) (g : Calmy X.A) (hg : Gl X x) (hm : X.mg x = some (.ref f)) (hk : PySem.W.keepIn X.K (.ref f) = true) (hb : Binds X.K fd ps [])
    (hx : Passes CX X E) (ha : PA X (e :: es) t) (hdb : (x == ("__debug__" : Str)) = false) (he : starEach (e :: es) X.env = (false, eval e X.env) :: starEach es X.env)
    (hpl : (backTo pos (starEach es X.env)).any (·.1) = false) : PE X (.Call (.Name x p) (e :: es) [] pos) (tCall sp [] E t) :=
  ⟨fun pins s σ H Q I h => wpAny_Call_Name_kw (ld_glob I hg hm (PySem.W.callWith_K (h₀ := X.base) I.ok.mod.kin hk (thn (ha.run pos pins s σ H _ I h) fun us s1 ⟨vs, H1, I1, r, q⟩ =>
    ⟨I1.kIn, F.runs hr g hb hx I1 r (by simpa using q)⟩) he hpl) hdb)⟩
theorem FnG.peM {pl : Sem Bool} (F : FnG X.prog X.w X.K X.mg X.base CX k f fd ps sp) (hr : Room k X.A) (g : Calmy X.A) (he : PE X o ta) (c : Cls X.K C) (hm : Meth X.K C m f) (hb : Binds X.K fd ps [])
    (hx : Passes CX X E) (ha : PA X (e :: es) t) (hst : starEach (e :: es) X.env = (false, eval e X.env) :: starEach es X.env) (hpl : (backTo pos (starEach es X.env)).any (·.1) = false)
    (ht : eval (.Call (.Attribute o m apos) (e :: es) [] pos) X.env = (do
      let ov ← eval o X.env
      standAt apos.atName
      let (f, first) ← holding [ov] (getMethod ov m pl)
      callWith pos f first (backTo pos (starEach (e :: es) X.env)) (backToKw pos (keywordEach [] X.env)))) :
    PE X (.Call (.Attribute o m apos) (e :: es) [] pos) (tMeth C m sp [] E ta t) :=
  ⟨fun pins s σ H Q I h => PySem.W.methodCall_KW (pl := pl) (thn (he.run pins s σ H _ I h) fun u s1 hh => by
    obtain ⟨y, H1, I1, ry, a, dx, fs, rfl, ea, l, q⟩ := hh
    cases ry
    exact getmeth_ok I1 ea c hm l (PySem.W.callWith_K (first := [.ref a]) (h₀ := X.base) I.ok.mod.kin hm.kp (thn (ha.run pos pins s1 σ H1 _ I1 q) fun us s2 ⟨vs, H2, I2, r, q2⟩ =>
      ⟨I2.kIn, F.runs (us := .ref a :: us) (vs := .ref a :: vs) hr g hb hx I2 (.cons rfl r) (by simpa using q2)⟩) hst hpl)) ht⟩
theorem calmy_make {A : Around} (h : Calmy A) (C : Addr) (us : List Value) (kw : List (Str × Value)) : Calmy (A.under (.builtin "type.__call__" ⟨.ref C :: us, kw⟩)) := by
  have h1 : (Code.builtin "type.__call__" ⟨.ref C :: us, kw⟩).guards = [] := by
    have : (Code.builtin "type.__call__" ⟨.ref C :: us, kw⟩).isGuard = false := by simp [Code.isGuard, guardIds]
    unfold Code.guards; rw [this]; rfl
  unfold Calmy Around.under
  simp only [h1, pushGuards]
  exact h
theorem FnG.peK (F : FnG X.prog X.w X.K X.mg X.base CX k f fd ps sp) (hr : Room (k + 1) X.A) (g : Calmy X.A) (M : Mk X.K C f) (hg : Gl X x) (hm : X.mg x = some (.ref C)) (hb : Binds X.K fd ps [])
    (hx : Passes CX X E) (ha : PA X (e :: es) t) (hdb : (x == ("__debug__" : Str)) = false) (he : starEach (e :: es) X.env = (false, eval e X.env) :: starEach es X.env)
    (hpl : (backTo pos (starEach es X.env)).any (·.1) = false) : PE X (.Call (.Name x p) (e :: es) [] pos) (tMake C sp [] E t) := by
  refine ⟨fun pins s0 σ H0 Q I0 h0 => wpAny_Call_Name_kw (ld_glob I0 hg hm (PySem.W.callWith_K (h₀ := X.base) I0.ok.mod.kin M.kp (thn (ha.run pos pins s0 σ H0 _ I0 h0) fun us s ⟨vs, H, I, r, h⟩ => ⟨I.kIn, ?_⟩) he hpl) hdb)⟩
  have hq := h (s.heap.objs.size + 1) s.heap.objs.size (I.hok.fresh (Nat.le_succ _)) (I.hok.fresh (Nat.le_refl _)) (Nat.ne_of_lt (Nat.lt_succ_self _))
  rw [List.append_nil] at hq
  have J := Inv.made (C := C) I
  have r2 : Vals (V.ref (s.heap.objs.size + 1) :: vs) (Value.ref (s.heap.objs.size + 1) :: us) := .cons rfl r
  refine wpAny_call (make_map (f := f) I.kIn M.makes M.init (beq_iff_eq.mp M.fn) (codeAny_mono (F.go (hr.make C us []) (calmy_make g C us []) (J.env0.make C us []) (binds0 hb J (r2.length.symm.trans (F.ar hq))) r2 hq) fun a b q => ?_))
  match a, q with
  | .error e, q => exact hx pins σ _ _ e b J q
  | .ok (.ret u), q =>
    obtain ⟨v, H', I3, rv, ev, q3⟩ := J.after q
    subst ev
    exact ⟨rv, V.ref (s.heap.objs.size + 1), H', I3, rfl, q3⟩
  | .ok .next, q => exact q.elim
  | .ok .brk, q => exact q.elim
  | .ok .cont, q => exact q.elim
end
/-- a def of the text, by its body -/
theorem fun_okG {CX : CXT} {P : Program} {w : World} {K : PySem.W.Frag} {mg : Str → Option Value} {base : Heap} {x qual : Str} {st : Stmt} {f : Addr} {fd : FuncData} {N ps : List Str} {k : Nat} {sp : Sp} (F : Fun K x qual st f fd)
    (S : FnScope N ps (defScope st)) (len : ∀ {vs H Q E}, sp vs H Q E → vs.length = ps.length)
    (body : ∀ (cdv : Value) (A : Around) (outer : List Env) (s : Shared) (H : Hp) (vs : List V) (Q : VK) (E : XK), fd.code = cdv → Room k (A.deeper (envOfC qual (defScope st) s.heap.objs.size f cdv)) → Calmy A → sp vs H Q E →
      ∃ t, PSs (cxOf CX P w K mg base N qual (defScope st) f cdv A outer s H E) (defBody st) t ∧ t { nx := fun _ H' => Q .non H', rt := Q } (start N vs) H) : FnG P w K mg base CX (k + 1) f fd ps sp := by
  obtain ⟨oc, od, kV, doc, pm, an, cdv, ct, osl, rfl, lk, hcd⟩ := F.ex
  refine ⟨len, fun {A outer s H args us vs Q E} hr hg e0 hb r hsp => ?_⟩
  have keep : ∀ b o, base.get? b = some o → s.heap.get? b = some o := fun b o e => (e0.bs b o e).1
  have KX : K.In s.heap := e0.mod.kin.keeps keep
  refine codeAny_call_function hr.depth (KX _ _ lk) rfl S.co S.gen rfl (PySem.W.codeRec_of KX hcd) (hb _ _ _ _ (wpAny_newFunctionEnv_cells S.kind (fun y hy => ?_) fun env he s1 i1 => ?_))
  · rcases S.par y.1 (List.of_mem_zip hy).1 with q | q
    · exact .inl q
    · exact .inr ⟨q, PySem.W.cellsFrom_some _ _ _ (.inl q)⟩
  · subst he
    obtain ⟨t, ht, hq⟩ := body cdv A outer s H vs Q E rfl (hr.deeper _) hg hsp
    have I := inv_start (CX := CX) (E := E) S hr.hd e0 (len hsp) r i1
    have fin : ∀ {σ' : L2.St} {H' : Hp} {v : V} {u : Value} {z : Shared}, Inv (cxOf CX P w K mg base N qual (defScope st) f cdv A outer s H E) [] σ' H' z → RelV v u → Q v H' → CE outer P w H s Q u z :=
      fun {σ' H' v u z} J rv q => ⟨v, H', J.os, J.bare, J.base, J.hok, rv, q⟩
    refine ⟨(e0.mod.nolimit.keeps keep).keeps i1.toInCall.keep, codeAny_func (wpAny_mono (ht.run [] s1 (start N vs) H _ I hq) (fun fl z hs => ?_) fun _ _ q => q)⟩
    match fl, hs with
    | .ret u, ⟨v, σ', H', J, rv, q⟩ => exact fin J rv q
    | .next, ⟨σ', H', J, q⟩ => exact fin (v := V.non) (u := Value.none) J rfl q
    | .brk, ⟨_, _, _, q⟩ => exact q.elim
    | .cont, ⟨_, _, _, q⟩ => exact q.elim
/-! ### the end: from the law's promise to the law -/
section
variable {P : Program} {w : World} {K : PySem.W.Frag} {mg mb : Str → Option Value} {CX : CXT} {k : Nat} {fa a : Addr} {fd : FuncData} {x : Str} {sp : Sp} {s₁ : Shared} {vs : List Value} {ns : List Int} {H : Hp}
abbrev LawEnds (s₁ : Shared) : Result → Shared → Prop := fun r z => r = .ok (.ret (.bool true)) ∧ OldK s₁.heap z.heap ∧ z.os = s₁.os ∧ AllBare z.gens
/-- from a heap in which the script alone may be told -/
theorem law_from (KX : K.In s₁.heap) (hns : s₁.heap.Ns mainGlobals mg) (hb : s₁.heap.Ns builtinsNs mb) (hbb : ∀ x : Str, x ≠ "__name__" → mb x = bootBuiltins x) (hlim : s₁.heap.NoLimit) (hg : s₁.gens = #[])
    (ha : s₁.heap.get? a = some { cls := .type "list", data := .seq vs.toArray }) (hr : Room k callerA) (F : ∀ base : Heap, K.In base → base.Ns mainGlobals mg → FnG P w K mg base CX k fa fd [x] sp)
    (hbind : ∀ (s : Shared) (u : Value), BindsTo s fd ⟨[u], []⟩ [(x, u)]) (hO : Only H) (hok : HOk P w H s₁.heap) (hA : ∀ b u, H b = some u → b = a) (hK : ∀ u, H a = some u → K.lookup a = none)
    (hsp : sp [.ref a] H (fun v _ => v = .bl true) fun _ _ _ => False) (hCX : ∀ e z, CX [] H s₁ (fun _ _ _ => False) e z → False) :
    codeAny (model P w) callerA (.call (.ref fa) ⟨[.ref a], []⟩) (LawEnds s₁) s₁ := by
  have dictFree : ∀ {b : Addr} {o : Obj} {es : Array DictEntry} {n : Nat}, s₁.heap.get? b = some o → o.data = .dict es n → H b = none := by
    intro b o es n e d
    match q : H b with
    | none => rfl
    | some u => cases hA b u q; rw [ha] at e; cases e; cases d
  have ns2 : ∀ {b : Addr} {m : Str → Option Value}, s₁.heap.Ns b m → (hidT s₁.heap H).Ns b m := fun ⟨o, es, n, e, d, r⟩ => ⟨o, es, n, hidT_get e (dictFree e d), d, r⟩
  have K2 : K.In (hidT s₁.heap H) := fun b o e => hidT_get (KX b o e) (by
    match q : H b with
    | none => rfl
    | some u => cases hA b u q; rw [hK u q] at e; cases e)
  have E0 : Env0 P w K mg (hidT s₁.heap H) callerA [] s₁ H := {
    frames := rfl
    mod := ⟨K2, ns2 hns, ⟨mb, ns2 hb, hbb⟩, let ⟨mc, h1, h2⟩ := hlim; ⟨mc, ns2 h1, h2⟩⟩
    bs := fun b o e => of_hidT e
    bsz := Nat.le_of_eq (hidT_size _ _)
    funs := trivial
    frf := fun b hb => nomatch hb
    hok := hok
    bare := .of_eq hg }
  refine codeAny_mono ((F _ K2 (ns2 hns)).go hr rfl E0 (us := [.ref a]) (vs := [.ref a]) (hbind s₁ (.ref a)) (.cons rfl .nil) hsp) fun r z q => ?_
  match r, q with
  | .error e, q => exact (hCX e z q).elim
  | .ok (.ret u), ⟨v, H', os, bare, un, hok', rv, hv⟩ =>
    cases hv
    cases rv
    refine ⟨rfl, OldK.of_keep fun b o e => ?_, os, bare⟩
    match hb : H b with
    | none => exact un.keep b o e hb (fun z => nomatch z) (by simp)
    | some u =>
      rcases hO b with z | ⟨ob, xs, z⟩
      · rw [hb] at z; cases z
      · have e1 := (hok b _ z).1
        rw [e] at e1
        cases e1
        exact (hok' b _ (un.frzs b _ _ z)).1
end
theorem vals_of_ints : ∀ {vs : List Value} {ns : List Int}, IntsAre vs ns → Vals (ns.map V.int) vs
  | _, _, .nil => .nil
  | _, _, .cons n t h => .cons ⟨t, rfl⟩ (vals_of_ints h)
/-- what k_head leaves, from the law's promise -/
theorem walk_G {l : PySem.W.OpenLaw} {n k : Nat} {q : Program} {loose : List Str} {XP : (Str → Option Value) → Heap → Prop} {YP : World → Heap → Prop} {d : DefRec} {K : Params → PySem.W.Frag} {CX : CXT} {sp : PySem.W.Frag → Sp} {x : Str}
    (hn : l.most = some n) (hn2 : n ≤ sizeLine) (hdf : d.params.defaults = []) (hr : Room k callerA) (hY : ∀ (w : World) (h : Heap), YP w h → (K w.params).In h)
    (F : ∀ (w : World) (mg : Str → Option Value) (fa : Addr) (h : Heap), (K w.params).In h → h.Ns mainGlobals mg → mg d.name = some (.ref fa) → ∃ fd : FuncData, (∀ (s : Shared) (u : Value), BindsTo s fd ⟨[u], []⟩ [(x, u)]) ∧
      ∀ base : Heap, (K w.params).In base → base.Ns mainGlobals mg → FnG l.prog w (K w.params) mg base CX k fa fd [x] (sp (K w.params)))
    (hsp : ∀ (K : PySem.W.Frag) (H : Hp) (a : Addr) (ns : List Int), ns.length ≤ n → SqL K H a (ns.map V.int) → sp K [.ref a] H (fun v _ => v = .bl true) fun _ _ _ => False)
    (hCX : ∀ (H : Hp) (s : Shared) (e : Value) (z : Shared), CX [] H s (fun _ _ _ => False) e z → False) : PySem.W.WalkO q loose XP YP l.row.toRowW d [] (fun f vs => PySem.call f vs) := by
  refine Att.attach_call hn hdf fun w s₀ s₁ mg mb fa o pm cd doc a vs ns G Y _ _ _ hmg ha hints hlen hg => ?_
  have KX := hY w _ Y
  obtain ⟨fd, hb, hF⟩ := F w mg fa _ KX G.T.g hmg
  have rv := vals_of_ints hints
  have hl := hints.length
  have hz : (ns.map V.int).length ≤ sizeLine := by rw [List.length_map]; omega
  have sz : vs.toArray.size ≤ sizeLine := by rw [List.size_toArray, hl]; omega
  have base := fun H => law_from (H := H) KX G.T.g G.T.b G.T.builtins G.T.nolimit hg ha hr hF hb
  match hk : (K w.params).lookup a with
  | some o =>
    have e := KX a o hk
    rw [ha] at e
    cases e
    exact base (fun _ => none) (fun _ => .inl rfl) (fun b u z => nomatch (show (none : Option HO) = some u from z)) (fun b u z => nomatch (show (none : Option HO) = some u from z)) (fun u z => nomatch (show (none : Option HO) = some u from z))
      (hsp _ _ a ns hlen (.inr ⟨_, vs.toArray, _, hk, rfl, rfl, rfl, sz, by simpa using rv⟩)) fun e z => hCX _ _ e z
  | none =>
    have at_ : ∀ {b : Addr} {u v : HO}, (if b = a then some v else none) = some u → b = a ∧ u = v := fun {b u v} z => by
      split at z
      · rename_i h; cases z; exact ⟨h, rfl⟩
      · cases z
    refine base (fun b => if b = a then some (.frz { cls := .type "list", data := .seq vs.toArray } (.lst (ns.map V.int))) else none) (fun b => ?_) (fun b u z => ?_) (fun b u z => (at_ z).1) (fun _ _ => hk) (hsp _ _ a ns hlen (.inl (.inr ⟨_, if_pos rfl⟩))) fun e z => hCX _ _ e z
    · by_cases h : b = a
      · exact .inr ⟨_, _, if_pos h⟩
      · exact .inl (if_neg h)
    · obtain ⟨rfl, rfl⟩ := at_ z
      exact ⟨ha, hz, vs, _, rv, ha⟩
end Q
namespace Q
open PySem L2
section
variable {Z : Zc}
/-! ### names, constants -/
def Sl.imm? : Sl → Option D
  | .imm d => some d
  | _ => none
/-- a name's value: fixed, or given to all from here on -/
def mVar (i : Nat) : ME := fun env => match env[i]? with
  | some (.imm d) => some (d, env)
  | some (.own d) => some (d, env.set i (.imm d))
  | _ => none
def mC (d : D) : ME := fun env => some (d, env)
theorem visOf {X : Cx} {x : Str} (h : InF Z X) (hv : Vis Z.sc x) : Vis X.env.scope x := by rw [h.sc]; exact hv
theorem ev_var {i : Nat} {x : Str} {pos : Pos} (hN : Z.N[i]? = some x) (hv : Vis Z.sc x) (hd : (x == ("__debug__" : Str)) = false := by decide) (hcd : (x == ("__classdict__" : Str)) = false := by decide) : EV Z (.Name x pos) (mVar i) := by
  refine ⟨tVar i, fun X h => pe_var (by rw [h.N]; exact hN) (visOf h hv) hd hcd, fun g env σ I H Q d env' R hm k => ?_⟩
  unfold mVar at hm
  split at hm
  · rename_i d' e
    cases hm
    obtain ⟨x, hx, v, rfl, r⟩ := R.at_ i _ e
    exact ⟨v, hx, k v I H R (Same.refl _) r⟩
  · rename_i d' e
    cases hm
    obtain ⟨a, o, hx, R', s, r⟩ := R.frz e
    exact ⟨.ref a, hx, k _ _ H R' s r⟩
  · cases hm
theorem ev_c {e : Expr} {d : D} {v : V} (h : ∀ X, InF Z X → PE X e (tC v)) (r : ∀ I, Rep Z.K Z.cl I d v) : EV Z e (mC d) :=
  ⟨tC v, h, fun g env σ I H Q d' env' R hm k => by cases hm; exact k v I H R (Same.refl _) (r I)⟩
theorem ev_int {i : Int} {j pos} : EV Z (.Constant (.int i) j pos) (mC (.int i)) := ev_c (fun _ _ => pe_int) fun _ => .int
theorem ev_str {i : Str} {j pos} : EV Z (.Constant (.str i) j pos) (mC (.str i)) := ev_c (fun _ _ => pe_str) fun _ => .str
theorem ev_bl {i : Bool} {j pos} : EV Z (.Constant (.bool i) j pos) (mC (.bl i)) := ev_c (fun _ _ => pe_bl) fun _ => .bl
theorem ev_non {j pos} : EV Z (.Constant .none j pos) (mC .non) := ev_c (fun _ _ => pe_non) fun _ => .non
def GlZ (Z : Zc) (x : Str) : Prop := Z.sc.names.lookup x = some .globalImplicit
theorem glOf {X : Cx} {x : Str} (h : InF Z X) (hg : GlZ Z x) : Gl X x := by
  show X.env.scope.names.lookup x = _
  rw [h.sc]; exact hg
theorem ev_glob {x : Str} {pos : Pos} {s : Str} (hg : GlZ Z x) (hm0 : ∃ t, Z.mg x = some (.str s t)) (hd : (x == ("__debug__" : Str)) = false := by decide) : EV Z (.Name x pos) (mC (.str s)) :=
  let ⟨t, hm⟩ := hm0
  ev_c (v := .str s) (fun X h => pe_glob (glOf h hg) (by rw [h.mg]; exact hm) ⟨t, rfl⟩ hd) fun _ => .str
theorem ev_globI {x : Str} {pos : Pos} {s : Int} (hg : GlZ Z x) (hm0 : ∃ t, Z.mg x = some (.int s t)) (hd : (x == ("__debug__" : Str)) = false := by decide) : EV Z (.Name x pos) (mC (.int s)) :=
  let ⟨t, hm⟩ := hm0
  ev_c (v := .int s) (fun X h => pe_glob (glOf h hg) (by rw [h.mg]; exact hm) ⟨t, rfl⟩ hd) fun _ => .int
/-- a built-in type's name -/
theorem ev_ty {x : Str} {pos : Pos} {n : String} (hg : GlZ Z x) (hm : Z.mg x = none) (hv : bootBuiltins x = some (.type n)) (hn : x ≠ "__name__" := by decide) (hd : (x == ("__debug__" : Str)) = false := by decide) : EV Z (.Name x pos) (mC (.typ n)) :=
  ev_c (v := .ty n) (fun X h => pe_bltn (glOf h hg) (by rw [h.mg]; exact hm) hv rfl hn hd) fun _ => .typ
/-! ### what may be read at a slot -/
inductive Ls where
  | fix (d : D) | slot (i : Nat)
def Sl.rd : Sl → Option D
  | .un => none
  | .imm d => some d
  | .bor d => some d
  | .own d => some d
  | .lck d => some d
  | .io _ d => some d
def Ls.get (l : Ls) (env : En) : Option D := match l with
  | .fix d => some d
  | .slot i => env[i]?.bind Sl.rd
abbrev ML := En → Option (Ls × En)
/-- readable here: fixed, or its top object as it stands -/
def Rb (Z : Zc) (I H : Hp) (d : D) (v : V) : Prop := Rep Z.K Z.cl I d v ∨ ∃ a, v = .ref a ∧ Top Z.K Z.cl I H d a
def LsOk (Z : Zc) (I : Hp) (σ : St) : Ls → V → Prop
  | .fix d, v => Rep Z.K Z.cl I d v
  | .slot i, v => σ[i]? = some (some v)
theorem Ls.rb {g : G} {env : En} {σ : St} {I H : Hp} {l : Ls} {v : V} {d : D} (R : SR Z.K Z.cl g env σ I H) (h : LsOk Z I σ l v) (hg : l.get env = some d) : Rb Z I H d v := by
  cases l with
  | fix d' => cases hg; exact .inl h
  | slot i =>
    change env[i]?.bind Sl.rd = some d at hg
    cases e : env[i]? with
    | none => rw [e] at hg; cases hg
    | some s =>
      rw [e] at hg
      obtain ⟨x, hx, q⟩ := R.at_ i s e
      rw [show σ[i]? = some (some v) from h] at hx
      cases hx
      cases s with
      | un => cases hg
      | imm d' => cases hg; obtain ⟨u, hu, r⟩ := q; cases hu; exact .inl r
      | bor d' => cases hg; obtain ⟨a, hu, r⟩ := q; cases hu; exact .inr ⟨a, rfl, r⟩
      | own d' => cases hg; obtain ⟨a, o, hu, h1, h2, _⟩ := q; cases hu; exact .inr ⟨a, rfl, o, h1, h2⟩
      | lck d' => cases hg; obtain ⟨a, o, hu, h1, h2, _⟩ := q; cases hu; exact .inr ⟨a, rfl, o, h1, h2⟩
      | io k d' => cases hg; obtain ⟨a, o, hu, _, h1, h2⟩ := q; cases hu; exact .inr ⟨a, rfl, o, h1, h2⟩
def SL (Z : Zc) (t : TE) (m : ML) : Prop := ∀ (g : G) (env : En) (σ : St) (I H : Hp) (Q : VK) (l : Ls) (env' : En), SR Z.K Z.cl g env σ I H → m env = some (l, env') →
  (∀ v I' H', SR Z.K Z.cl g env' σ I' H' → Same I I' → LsOk Z I' σ l v → Q v H') → t σ H Q
def LV (Z : Zc) (e : Expr) (m : ML) : Prop := ∃ t, (∀ X, InF Z X → PE X e t) ∧ SL Z t m
def lVar (i : Nat) : ML := fun env => (env[i]?.bind Sl.rd).map fun _ => (.slot i, env)
def lFix (m : ME) : ML := fun env => (m env).map fun p => (.fix p.1, p.2)
theorem lv_var {i : Nat} {x : Str} {pos : Pos} (hN : Z.N[i]? = some x) (hv : Vis Z.sc x) (hd : (x == ("__debug__" : Str)) = false := by decide) (hcd : (x == ("__classdict__" : Str)) = false := by decide) : LV Z (.Name x pos) (lVar i) := by
  refine ⟨tVar i, fun X h => pe_var (by rw [h.N]; exact hN) (visOf h hv) hd hcd, fun g env σ I H Q l env' R hm k => ?_⟩
  unfold lVar at hm
  cases e : env[i]? with
  | none => rw [e] at hm; cases hm
  | some s =>
    rw [e] at hm
    obtain ⟨x, hx, q⟩ := R.at_ i _ e
    have fin : ∀ v, x = some v → (l, env') = (Ls.slot i, env) → ∃ v, σ[i]? = some (some v) ∧ Q v H := fun v hxv he => by
      cases he
      subst hxv
      exact ⟨v, hx, k v I H R (Same.refl _) hx⟩
    cases s with
    | un => cases hm
    | imm d => cases hm; obtain ⟨v, e, _⟩ := q; exact fin v e rfl
    | bor d => cases hm; obtain ⟨v, e, _⟩ := q; exact fin _ e rfl
    | own d => cases hm; obtain ⟨v, o, e, _⟩ := q; exact fin _ e rfl
    | lck d => cases hm; obtain ⟨v, o, e, _⟩ := q; exact fin _ e rfl
    | io j d => cases hm; obtain ⟨v, o, e, _⟩ := q; exact fin _ e rfl
theorem lv_ev {e : Expr} {m : ME} (h : EV Z e m) : LV Z e (lFix m) := by
  obtain ⟨t, h1, h2⟩ := h
  refine ⟨t, h1, fun g env σ I H Q l env' R hm k => ?_⟩
  unfold lFix at hm
  cases e : m env with
  | none => rw [e] at hm; cases hm
  | some p =>
    rw [e] at hm
    cases hm
    exact h2 g env σ I H Q p.1 p.2 R e k
theorem LsOk.mono {I I' : Hp} {σ : St} {l : Ls} {v : V} (s : Same I I') (h : LsOk Z I σ l v) : LsOk Z I' σ l v := by
  cases l with
  | fix d => exact Rep.mono s h
  | slot i => exact h
/-- reading ops -/
theorem Rb.int {I H : Hp} {i : Int} {v : V} (h : Rb Z I H (.int i) v) : v = .int i := by
  rcases h with h | ⟨a, _, o, _, h⟩
  · exact h.int_inv
  · cases h
theorem Rb.str {I H : Hp} {i : Str} {v : V} (h : Rb Z I H (.str i) v) : v = .str i := by
  rcases h with h | ⟨a, _, o, _, h⟩
  · exact h.str_inv
  · cases h
theorem Rb.bl {I H : Hp} {i : Bool} {v : V} (h : Rb Z I H (.bl i) v) : v = .bl i := by
  rcases h with h | ⟨a, _, o, _, h⟩
  · exact h.bl_inv
  · cases h
theorem Rb.non {I H : Hp} {v : V} (h : Rb Z I H .non v) : v = .non := by
  rcases h with h | ⟨a, _, o, _, h⟩
  · exact h.non_inv
  · cases h
theorem Rb.typ {I H : Hp} {n : String} {v : V} (h : Rb Z I H (.typ n) v) : v = .ty n := by
  rcases h with h | ⟨a, _, o, _, h⟩
  · exact h.typ_inv
  · cases h
theorem Rb.lst {I H : Hp} {xs : List D} {v : V} (s : Same I H) (h : Rb Z I H (.lst xs) v) : ∃ a vs, v = .ref a ∧ H a = some (.lst vs) ∧ Reps Z.K Z.cl I xs vs := by
  rcases h with h | ⟨a, rfl, o, e, h⟩
  · obtain ⟨a, vs, rfl, e, r⟩ := h.lst_inv
    exact ⟨a, vs, rfl, s _ _ e, r⟩
  · obtain ⟨vs, rfl, r⟩ := h.lst_inv
    exact ⟨a, vs, rfl, e, r⟩
theorem Rb.scr {I H : Hp} {xs : List D} {v : V} (s : Same I H) (h : Rb Z I H (.scr xs) v) : ∃ a vs, v = .ref a ∧ SqL Z.K H a vs ∧ Reps Z.K Z.cl I xs vs := by
  rcases h with h | ⟨a, rfl, o, e, h⟩
  · obtain ⟨a, vs, rfl, e, r⟩ := h.scr_inv
    exact ⟨a, vs, rfl, s.seq e, r⟩
  · cases h
theorem SqT.mono {K : PySem.W.Frag} {I I' : Hp} {a : Addr} {vs : List V} (s : Same I I') (h : SqT K I a vs) : SqT K I' a vs := by
  rcases h with (h | ⟨o, h⟩) | h
  · exact .inl (.inl (s _ _ h))
  · exact .inl (.inr ⟨o, s _ _ h⟩)
  · exact .inr h
theorem Rb.tup {I H : Hp} {xs : List D} {v : V} (s : Same I H) (h : Rb Z I H (.tup xs) v) : ∃ a vs, v = .ref a ∧ SqT Z.K H a vs ∧ Reps Z.K Z.cl I xs vs := by
  rcases h with h | ⟨a, rfl, o, e, h⟩
  · obtain ⟨a, vs, rfl, e, r⟩ := h.tup_inv
    exact ⟨a, vs, rfl, SqT.mono s e, r⟩
  · cases h
theorem Rb.dic {I H : Hp} {ks xs} {v : V} (s : Same I H) (h : Rb Z I H (.dic ks xs) v) : ∃ a vs, v = .ref a ∧ Rd H a (.dK (ks.zip vs)) ∧ Reps Z.K Z.cl I xs vs ∧ ks.length = xs.length := by
  rcases h with h | ⟨a, rfl, o, e, h⟩
  · obtain ⟨a, vs, rfl, e, r, l⟩ := h.dic_inv
    rcases e with e | ⟨od, e⟩
    · exact ⟨a, vs, rfl, .inl (s _ _ e), r, l⟩
    · exact ⟨a, vs, rfl, .inr ⟨od, s _ _ e⟩, r, l⟩
  · obtain ⟨vs, rfl, r, l⟩ := h.dic_inv
    exact ⟨a, vs, rfl, .inl e, r, l⟩
theorem Rb.ob {I H : Hp} {c ks xs} {v : V} (s : Same I H) (h : Rb Z I H (.obj c ks xs) v) : ∃ a C dx vs, v = .ref a ∧ H a = some (.ins C dx (ks.zip vs)) ∧ Z.cl c = some C ∧ Reps Z.K Z.cl I xs vs ∧ ks.length = xs.length := by
  rcases h with h | ⟨a, rfl, o, e, h⟩
  · obtain ⟨a, C, dx, vs, rfl, e, q, r, l⟩ := h.ob_inv
    exact ⟨a, C, dx, vs, rfl, s _ _ e, q, r, l⟩
  · obtain ⟨C, dx, vs, rfl, q, r, l⟩ := h.ob_inv
    exact ⟨a, C, dx, vs, rfl, e, q, r, l⟩
/-! ### two readable operands, a fixed value -/
/-- a rule by values gives what f tells -/
def RuleOk (Z : Zc) (r : R2) (f : D → D → Option D) : Prop := ∀ (I H : Hp) (x y z : D) (vx vy : V) (Q : VK), Same I H → Rb Z I H x vx → Rb Z I H y vy → f x y = some z → (∀ vz, Rep Z.K Z.cl I z vz → Q vz H) → r vx vy H Q
/-- .. a new object -/
def RuleNew (Z : Zc) (r : R2) (f : D → D → Option D) : Prop := ∀ (I H : Hp) (x y z : D) (vx vy : V) (Q : VK), Same I H → Rb Z I H x vx → Rb Z I H y vy → f x y = some z →
  (∀ p o, H p = none → ObjRep Z.K Z.cl I z o → Q (.ref p) (upd H p o)) → r vx vy H Q
def mBin (f : D → D → Option D) (a b : ML) : ME := fun env => (a env).bind fun p => (b p.2).bind fun q => (p.1.get q.2).bind fun x => (q.1.get q.2).bind fun y => (f x y).map fun z => (z, q.2)
theorem mBin_inv {f : D → D → Option D} {a b : ML} {env env' : En} {z : D} (h : mBin f a b env = some (z, env')) :
    ∃ la e1 lb x y, a env = some (la, e1) ∧ b e1 = some (lb, env') ∧ la.get env' = some x ∧ lb.get env' = some y ∧ f x y = some z := by
  unfold mBin at h
  cases h1 : a env with
  | none => rw [h1] at h; cases h
  | some p =>
    rw [h1] at h
    simp only [Option.bind_some] at h
    cases h2 : b p.2 with
    | none => rw [h2] at h; cases h
    | some q =>
      rw [h2] at h
      simp only [Option.bind_some] at h
      cases h3 : p.1.get q.2 with
      | none => rw [h3] at h; cases h
      | some x =>
        rw [h3] at h
        simp only [Option.bind_some] at h
        cases h4 : q.1.get q.2 with
        | none => rw [h4] at h; cases h
        | some y =>
          rw [h4] at h
          simp only [Option.bind_some] at h
          cases h5 : f x y with
          | none => rw [h5] at h; cases h
          | some w =>
            rw [h5] at h
            cases h
            exact ⟨_, _, _, _, _, rfl, h2, h3, h4, h5⟩
theorem bin_se {r : R2} {f : D → D → Option D} {ta tb : TE} {ma mb : ML} (hr : RuleOk Z r f) (ha : SL Z ta ma) (hb : SL Z tb mb) : SE Z (tOp r ta tb) (mBin f ma mb) := by
  intro g env σ I H Q d env' R hm k
  obtain ⟨la, e1, lb, x, y, h1, h2, h3, h4, h5⟩ := mBin_inv hm
  refine ha g env σ I H _ la e1 R h1 fun vx I1 H1 R1 s1 o1 => ?_
  refine hb g e1 σ I1 H1 _ lb env' R1 h2 fun vy I2 H2 R2 s2 o2 => ?_
  exact hr I2 H2 x y d vx vy Q R2.sub (Ls.rb R2 (o1.mono s2) h3) (Ls.rb R2 o2 h4) h5 fun vz rz => k vz I2 H2 R2 (s1.trans s2) rz
theorem bin_sf {r : R2} {f : D → D → Option D} {ta tb : TE} {ma mb : ML} (hr : RuleNew Z r f) (ha : SL Z ta ma) (hb : SL Z tb mb) : SF Z (tOp r ta tb) (mBin f ma mb) := by
  intro g env σ I H Q d env' R hm k
  obtain ⟨la, e1, lb, x, y, h1, h2, h3, h4, h5⟩ := mBin_inv hm
  refine ha g env σ I H _ la e1 R h1 fun vx I1 H1 R1 s1 o1 => ?_
  refine hb g e1 σ I1 H1 _ lb env' R1 h2 fun vy I2 H2 R2 s2 o2 => ?_
  exact hr I2 H2 x y d vx vy Q R2.sub (Ls.rb R2 (o1.mono s2) h3) (Ls.rb R2 o2 h4) h5 fun p o hp ro => k p o I2 (upd H2 p o) (R2.alloc hp o) (s1.trans s2) (R2.new hp) ro
theorem ev_op {op : Operator} {r : R2} {f : D → D → Option D} {a b : Expr} {ma mb : ML} {pos : Pos} (ho : ∀ X, InF Z X → OpR X (binaryOp op) r) (hr : RuleOk Z r f) (ha : LV Z a ma) (hb : LV Z b mb) : EV Z (.BinOp a op b pos) (mBin f ma mb) := by
  obtain ⟨ta, a1, a2⟩ := ha
  obtain ⟨tb, b1, b2⟩ := hb
  exact ⟨_, fun X h => pe_op (ho X h) (a1 X h) (b1 X h), bin_se hr a2 b2⟩
theorem ef_op {op : Operator} {r : R2} {f : D → D → Option D} {a b : Expr} {ma mb : ML} {pos : Pos} (ho : ∀ X, InF Z X → OpR X (binaryOp op) r) (hr : RuleNew Z r f) (ha : LV Z a ma) (hb : LV Z b mb) : EF Z (.BinOp a op b pos) (mBin f ma mb) := by
  obtain ⟨ta, a1, a2⟩ := ha
  obtain ⟨tb, b1, b2⟩ := hb
  exact ⟨_, fun X h => pe_op (ho X h) (a1 X h) (b1 X h), bin_sf hr a2 b2⟩
theorem ev_cmp {op : CmpOp} {r : R2} {f : D → D → Option D} {a b : Expr} {ma mb : ML} {pos : Pos} (ho : ∀ X, InF Z X → OpR X (compareOp op) r) (hr : RuleOk Z r f) (ha : LV Z a ma) (hb : LV Z b mb) (hm : behindInMarks op b = false) : EV Z (.Compare a [op] [b] pos) (mBin f ma mb) := by
  obtain ⟨ta, a1, a2⟩ := ha
  obtain ⟨tb, b1, b2⟩ := hb
  exact ⟨_, fun X h => pe_cmpR (ho X h) (a1 X h) (b1 X h) hm, bin_se hr a2 b2⟩
/-! ### tests -/
def mTest (m : ME) : MT := fun env => (m env).bind fun p => match p.1 with
  | .bl b => some (b, p.2)
  | _ => none
theorem mTest_inv {m : ME} {env env' : En} {b : Bool} (h : mTest m env = some (b, env')) : m env = some (.bl b, env') := by
  unfold mTest at h
  cases h1 : m env with
  | none => rw [h1] at h; cases h
  | some p =>
    rw [h1] at h
    obtain ⟨d, e⟩ := p
    cases d <;> first | (cases h; rfl) | cases h
theorem tv_cmp {op : CmpOp} {r : R2} {f : D → D → Option D} {a b : Expr} {ma mb : ML} {pos : Pos} (ho : ∀ X, InF Z X → OpR X (compareOp op) r) (hr : RuleOk Z r f) (ha : LV Z a ma) (hb : LV Z b mb) (hm : behindInMarks op b = false) : TV Z (.Compare a [op] [b] pos) (mTest (mBin f ma mb)) := by
  obtain ⟨ta, a1, a2⟩ := ha
  obtain ⟨tb, b1, b2⟩ := hb
  refine ⟨_, fun X h => pt_cmpR (ho X h) (a1 X h) (b1 X h) hm, fun g env σ I H Q c env' R hm k => ?_⟩
  refine bin_se hr a2 b2 g env σ I H _ _ env' R (mTest_inv hm) fun v I' H' R' s rv => ?_
  exact ⟨c, rv.bl_inv, k I' H' R' s⟩
end
end Q
namespace Q
open PySem L2
section
variable {Z : Zc}
/-! ### arithmetic -/
def dAdd : D → D → Option D
  | .int a, .int b => some (.int (a + b))
  | .str a, .str b => if a.length + b.length ≤ sizeLine then some (.str (a ++ b)) else none
  | _, _ => none
def rAddE : R2 := fun x y H Q => rI0 (fun i j => .int (i + j)) x y H Q ∨ ∃ i j, x = .str i ∧ y = .str j ∧ i.length + j.length ≤ sizeLine ∧ Q (.str (i ++ j)) H
theorem ok_add : RuleOk Z rAddE dAdd := by
  intro I H x y z vx vy Q s rx ry h k
  unfold dAdd at h
  split at h
  · cases h; cases rx.int; cases ry.int; exact .inl ⟨_, _, rfl, rfl, k _ .int⟩
  · split at h
    · rename_i hl; cases h; cases rx.str; cases ry.str; exact .inr ⟨_, _, rfl, rfl, hl, k _ .str⟩
    · cases h
  · cases h
theorem or_add {X : Cx} : OpR X (binaryOp .Add) rAddE := OpR.or op_add op_add_str
def dSub : D → D → Option D
  | .int a, .int b => some (.int (a - b))
  | _, _ => none
theorem ok_sub : RuleOk Z (rI0 fun i j => .int (i - j)) dSub := by
  intro I H x y z vx vy Q s rx ry h k
  unfold dSub at h
  split at h
  · cases h; cases rx.int; cases ry.int; exact ⟨_, _, rfl, rfl, k _ .int⟩
  · cases h
instance (i j : Int) : Decidable (CMul i j) := by unfold CMul; exact inferInstance
instance (i j : Int) : Decidable (CDiv i j) := by unfold CDiv; exact inferInstance
instance (i j : Int) : Decidable (CPow i j) := by unfold CPow; exact inferInstance
def dMul : D → D → Option D
  | .int a, .int b => if CMul a b then some (.int (a * b)) else none
  | _, _ => none
theorem ok_mul : RuleOk Z (rI CMul fun i j => .int (i * j)) dMul := by
  intro I H x y z vx vy Q s rx ry h k
  unfold dMul at h
  split at h
  · split at h
    · rename_i hl; cases h; cases rx.int; cases ry.int; exact ⟨_, _, rfl, rfl, hl, k _ .int⟩
    · cases h
  · cases h
def dDiv : D → D → Option D
  | .int a, .int b => if CDiv a b then some (.int (a / b)) else none
  | _, _ => none
theorem ok_div : RuleOk Z (rI CDiv fun i j => .int (i / j)) dDiv := by
  intro I H x y z vx vy Q s rx ry h k
  unfold dDiv at h
  split at h
  · split at h
    · rename_i hl; cases h; cases rx.int; cases ry.int; exact ⟨_, _, rfl, rfl, hl, k _ .int⟩
    · cases h
  · cases h
def dMod : D → D → Option D
  | .int a, .int b => if 0 < b then some (.int (a % b)) else none
  | _, _ => none
theorem ok_mod : RuleOk Z (rI (fun _ j => 0 < j) fun i j => .int (i % j)) dMod := by
  intro I H x y z vx vy Q s rx ry h k
  unfold dMod at h
  split at h
  · split at h
    · rename_i hl; cases h; cases rx.int; cases ry.int; exact ⟨_, _, rfl, rfl, hl, k _ .int⟩
    · cases h
  · cases h
def dPow : D → D → Option D
  | .int a, .int b => if CPow a b then some (.int (a ^ b.toNat)) else none
  | _, _ => none
theorem ok_pow : RuleOk Z (rI CPow fun i j => .int (i ^ j.toNat)) dPow := by
  intro I H x y z vx vy Q s rx ry h k
  unfold dPow at h
  split at h
  · split at h
    · rename_i hl; cases h; cases rx.int; cases ry.int; exact ⟨_, _, rfl, rfl, hl, k _ .int⟩
    · cases h
  · cases h
/-- lists: a new list -/
def dCat : D → D → Option D
  | .lst a, .lst b => if a.length + b.length ≤ sizeLine then some (.lst (a ++ b)) else none
  | _, _ => none
theorem ok_cat : RuleNew Z rCat dCat := by
  intro I H x y z vx vy Q s rx ry h k
  unfold dCat at h
  split at h
  · split at h
    · rename_i hl
      cases h
      obtain ⟨a, vs, rfl, ha, ra⟩ := rx.lst s
      obtain ⟨b, us, rfl, hb, rb⟩ := ry.lst s
      exact ⟨a, b, vs, us, rfl, rfl, ha, hb, by rw [← ra.length, ← rb.length]; exact hl, fun p hp => k p _ hp (.lst (ra.append rb))⟩
    · cases h
  · cases h
theorem Reps.flat_replicate {K : PySem.W.Frag} {cl : String → Option Addr} {I : Hp} {xs : List D} {vs : List V} (r : Reps K cl I xs vs) : ∀ n, Reps K cl I (List.replicate n xs).flatten (List.replicate n vs).flatten
  | 0 => .nil
  | n + 1 => by
    rw [List.replicate_succ, List.replicate_succ, List.flatten_cons, List.flatten_cons]
    exact r.append (Reps.flat_replicate r n)
def dRep : D → D → Option D
  | .lst a, .int k => if -(2 ^ 63) ≤ k ∧ k < 2 ^ 63 ∧ a.length * k.toNat ≤ sizeLine then some (.lst (List.replicate k.toNat a).flatten) else none
  | _, _ => none
theorem ok_rep : RuleNew Z rRep dRep := by
  intro I H x y z vx vy Q s rx ry h k
  unfold dRep at h
  split at h
  · split at h
    · rename_i hl
      cases h
      obtain ⟨a, vs, rfl, ha, ra⟩ := rx.lst s
      cases ry.int
      obtain ⟨h1, h2, h3⟩ := hl
      exact ⟨a, _, vs, rfl, rfl, ha, h1, h2, by rw [← ra.length]; exact h3, fun p hp => k p _ hp (.lst (ra.flat_replicate _))⟩
    · cases h
  · cases h
/-- text * n -/
def mulStr : Str → Int → Option Str := fun x n => if 0 ≤ n ∧ n ≤ 1000 ∧ x.length ≤ 1000 then some (Txt.mul x n) else none
def dMulS : D → D → Option D
  | .str a, .int k => (mulStr a k).map D.str
  | _, _ => none
def rMulS : R2 := fun x y H Q => ∃ a k, x = .str a ∧ y = .int k ∧ (0 ≤ k ∧ k ≤ 1000 ∧ a.length ≤ 1000) ∧ Q (.str (Txt.mul a k)) H
theorem op_mulS {X : Cx} : OpR X (binaryOp .Mult) rMulS := by
  intro pins s σ H x y v u Q I rx ry h
  obtain ⟨a, k, rfl, rfl, ⟨h1, h2, h3⟩, q⟩ := h
  obtain ⟨t, rfl⟩ := rx
  obtain ⟨t', rfl⟩ := ry
  refine PySem.SB.mul ⟨?_, ?_, ?_⟩ fun t2 k2 => ⟨.str _, H, I.tok _, ⟨_, rfl⟩, q⟩
  · rw [Bool.or_eq_false_iff]
    exact ⟨decide_eq_false (by omega), decide_eq_false (by omega)⟩
  · intro h4 _ h5
    have : (a.length : Int) ≤ 1000 := by omega
    have h6 : (1000 : Int) ≤ (2 ^ 63 - 1) / k := by
      rw [Int.le_ediv_iff_mul_le (by omega)]
      have : 1000 * k ≤ 1000 * 1000 := by omega
      omega
    omega
  · intro h4 _
    unfold PySem.Builtin.Str.tooLong
    have h7 : a.length * k.toNat ≤ 1000 * 1000 := Nat.mul_le_mul h3 (by omega)
    have h8 : 1000000 ≤ sizeLine := by decide
    simp
    omega
theorem ok_mulS : RuleOk Z rMulS dMulS := by
  intro I H x y z vx vy Q s rx ry h k
  unfold dMulS at h
  split at h
  · unfold mulStr at h
    split at h
    · rename_i hl
      cases h
      cases rx.str; cases ry.int
      exact ⟨_, _, rfl, rfl, hl, k _ .str⟩
    · cases h
  · cases h
/-! ### comparisons -/
def dCmp (p : Int → Int → Bool) : D → D → Option D
  | .int a, .int b => some (.bl (p a b))
  | _, _ => none
theorem ok_cmp {p : Int → Int → Bool} : RuleOk Z (rI0 fun i j => .bl (p i j)) (dCmp p) := by
  intro I H x y z vx vy Q s rx ry h k
  unfold dCmp at h
  split at h
  · cases h; cases rx.int; cases ry.int; exact ⟨_, _, rfl, rfl, k _ .bl⟩
  · cases h
abbrev dLt := dCmp fun i j => decide (i < j)
abbrev dLe := dCmp fun i j => decide (i ≤ j)
abbrev dGt := dCmp fun i j => decide (j < i)
abbrev dGe := dCmp fun i j => decide (j ≤ i)
mutual
def toP : D → Option PyData
  | .non => some .none
  | .bl b => some (.bool b)
  | .int i => some (.int i)
  | .str s => some (.str s)
  | .lst xs => (toPs xs).map .list
  | .scr xs => (toPs xs).map .list
  | .tup xs => (toPs xs).map .tuple
  | _ => none
def toPs : List D → Option (List PyData)
  | [] => some []
  | x :: xs => (toP x).bind fun p => (toPs xs).map fun ps => p :: ps
end
mutual
theorem toP_ok {I H : Hp} (s : Same I H) : ∀ (d : D) (p : PyData) (v : V), toP d = some p → Rep Z.K Z.cl I d v → Dp Z.K H v p
  | .non, p, v, h, r => by unfold toP at h; cases h; cases r.non_inv; exact .non
  | .bl b, p, v, h, r => by unfold toP at h; cases h; cases r.bl_inv; exact .bl _
  | .int b, p, v, h, r => by unfold toP at h; cases h; cases r.int_inv; exact .int _
  | .str b, p, v, h, r => by unfold toP at h; cases h; cases r.str_inv; exact .str _
  | .lst xs, p, v, h, r => by
    unfold toP at h
    cases e : toPs xs with
    | none => rw [e] at h; cases h
    | some ps =>
      rw [e] at h; cases h
      obtain ⟨a, vs, rfl, ha, ra⟩ := r.lst_inv
      exact .lst (SqL.of (s _ _ ha)) (toPs_ok s xs ps vs e ra)
  | .scr xs, p, v, h, r => by
    unfold toP at h
    cases e : toPs xs with
    | none => rw [e] at h; cases h
    | some ps =>
      rw [e] at h; cases h
      obtain ⟨a, vs, rfl, ha, ra⟩ := r.scr_inv
      exact .lst (s.seq ha) (toPs_ok s xs ps vs e ra)
  | .tup xs, p, v, h, r => by
    unfold toP at h
    cases e : toPs xs with
    | none => rw [e] at h; cases h
    | some ps =>
      rw [e] at h; cases h
      obtain ⟨a, vs, rfl, ha, ra⟩ := r.tup_inv
      exact .tup (SqT.mono s ha) (toPs_ok s xs ps vs e ra)
  | .dic _ _, p, v, h, r => by unfold toP at h; cases h
  | .obj _ _ _, p, v, h, r => by unfold toP at h; cases h
  | .typ _, p, v, h, r => by unfold toP at h; cases h
  | .dcn _ _, p, v, h, r => by unfold toP at h; cases h
theorem toPs_ok {I H : Hp} (s : Same I H) : ∀ (ds : List D) (ps : List PyData) (vs : List V), toPs ds = some ps → Reps Z.K Z.cl I ds vs → DpAll Z.K H vs ps
  | [], ps, vs, h, r => by unfold toPs at h; cases h; cases r; exact .nil
  | d :: ds, ps, vs, h, r => by
    unfold toPs at h
    cases e : toP d with
    | none => rw [e] at h; cases h
    | some p =>
      rw [e] at h
      cases e2 : toPs ds with
      | none => rw [e2] at h; cases h
      | some qs =>
        rw [e2] at h
        cases h
        cases r with
        | cons r1 r2 => exact .cons (toP_ok s d p _ e r1) (toPs_ok s ds qs _ e2 r2)
end
theorem Rb.dp {I H : Hp} (s : Same I H) {d : D} {p : PyData} {v : V} (h : toP d = some p) (r : Rb Z I H d v) : Dp Z.K H v p := by
  rcases r with r | ⟨a, rfl, o, ha, r⟩
  · exact toP_ok s d p v h r
  · cases r with
    | lst ra =>
      unfold toP at h
      rename_i xs vs
      cases e : toPs xs with
      | none => rw [e] at h; cases h
      | some ps => rw [e] at h; cases h; exact .lst (SqL.of ha) (toPs_ok s _ _ _ e ra)
    | dic => unfold toP at h; cases h
    | obj => unfold toP at h; cases h
    | dcn => unfold toP at h; cases h
def dEqv (neg : Bool) : D → D → Option D
  | .str a, .str b => some (.bl (if neg then !decide (a = b) else decide (a = b)))
  | x, y => (toP x).bind fun d => (toP y).bind fun e => if (SeqAt.shaped d && SeqAt.shaped e) = true then some (.bl (if neg then !PyData.eqv d e else PyData.eqv d e)) else none
def rEqE (K : PySem.W.Frag) : R2 := fun x y H Q => rEq x y H Q ∨ rEqD K x y H Q
def rNeE (K : PySem.W.Frag) : R2 := fun x y H Q => rNe x y H Q ∨ rNeD K x y H Q
theorem or_eq {X : Cx} (h : InF Z X) : OpR X (compareOp .Eq) (rEqE Z.K) := by
  rw [← h.K]
  exact OpR.or op_eq (op_eqD h.room.units)
theorem or_ne {X : Cx} (h : InF Z X) : OpR X (compareOp .NotEq) (rNeE Z.K) := by
  rw [← h.K]
  exact OpR.or op_ne (op_neD h.room.units)
theorem dEqv_inv {neg : Bool} {x y z : D} (h : dEqv neg x y = some z) : (∃ a b, x = .str a ∧ y = .str b ∧ z = .bl (if neg then !decide (a = b) else decide (a = b))) ∨
    ∃ d e, toP x = some d ∧ toP y = some e ∧ SeqAt.shaped d = true ∧ SeqAt.shaped e = true ∧ z = .bl (if neg then !PyData.eqv d e else PyData.eqv d e) := by
  unfold dEqv at h
  split at h
  · cases h; exact .inl ⟨_, _, rfl, rfl, rfl⟩
  · refine .inr ?_
    cases e1 : toP x with
    | none => rw [e1] at h; cases h
    | some d =>
      rw [e1] at h
      cases e2 : toP y with
      | none => rw [e2] at h; cases h
      | some e =>
        rw [e2] at h
        simp only [Option.bind_some] at h
        split at h
        · rename_i hs
          cases h
          rw [Bool.and_eq_true] at hs
          exact ⟨d, e, rfl, rfl, hs.1, hs.2, rfl⟩
        · cases h
theorem ok_eq : RuleOk Z (rEqE Z.K) (dEqv false) := by
  intro I H x y z vx vy Q s rx ry h k
  rcases dEqv_inv h with ⟨a, b, rfl, rfl, rfl⟩ | ⟨d, e, h1, h2, h3, h4, rfl⟩
  · cases rx.str; cases ry.str
    refine .inl ⟨rfl, ?_⟩
    have e : decide (V.str a = V.str b) = decide (a = b) := by simp
    rw [e]
    exact k _ .bl
  · exact .inr ⟨d, e, rx.dp s h1, ry.dp s h2, h3, h4, k _ .bl⟩
theorem ok_ne : RuleOk Z (rNeE Z.K) (dEqv true) := by
  intro I H x y z vx vy Q s rx ry h k
  rcases dEqv_inv h with ⟨a, b, rfl, rfl, rfl⟩ | ⟨d, e, h1, h2, h3, h4, rfl⟩
  · cases rx.str; cases ry.str
    refine .inl ⟨rfl, ?_⟩
    have e : decide (V.str a = V.str b) = decide (a = b) := by simp
    rw [e]
    exact k _ .bl
  · exact .inr ⟨d, e, rx.dp s h1, ry.dp s h2, h3, h4, k _ .bl⟩
/-- is None, is not None -/
def D.isNon : D → Bool
  | .non => true
  | _ => false
def dIs (neg : Bool) : D → D → Option D
  | x, .non => some (.bl (if neg then !x.isNon else x.isNon))
  | _, _ => none
theorem Rb.isNon {I H : Hp} {d : D} {v : V} (r : Rb Z I H d v) : decide (v = .non) = d.isNon := by
  rcases r with r | ⟨a, rfl, o, ha, r⟩
  · cases r with
    | obj _ q => cases q <;> rfl
    | _ => rfl
  · cases r <;> rfl
theorem ok_is : RuleOk Z (fun x y H Q => y = .non ∧ Q (.bl (decide (x = .non))) H) (dIs false) := by
  intro I H x y z vx vy Q s rx ry h k
  unfold dIs at h
  split at h
  · cases h; cases ry.non
    rw [rx.isNon]
    exact ⟨rfl, k _ .bl⟩
  · cases h
theorem ok_isnot : RuleOk Z (fun x y H Q => y = .non ∧ Q (.bl (!decide (x = .non))) H) (dIs true) := by
  intro I H x y z vx vy Q s rx ry h k
  unfold dIs at h
  split at h
  · cases h; cases ry.non
    rw [rx.isNon]
    exact ⟨rfl, k _ .bl⟩
  · cases h
end
end Q
namespace Q
open PySem L2
section
variable {Z : Zc}
/-! ### in -/
def D.items? : D → Option (List D)
  | .lst xs => some xs
  | .scr xs => some xs
  | .tup xs => some xs
  | _ => none
def D.flat? : D → Option V
  | .non => some .non
  | .bl b => some (.bl b)
  | .int i => some (.int i)
  | .str s => some (.str s)
  | _ => none
def flats : List D → Option (List V)
  | [] => some []
  | d :: ds => d.flat?.bind fun v => (flats ds).map fun vs => v :: vs
theorem flat_rep {K : PySem.W.Frag} {cl : String → Option Addr} {I : Hp} {d : D} {v u : V} (h : d.flat? = some v) (r : Rep K cl I d u) : u = v ∧ flatV v = true := by
  cases d <;> simp only [D.flat?] at h <;> first | (cases h; first | exact ⟨r.non_inv, rfl⟩ | exact ⟨r.bl_inv, rfl⟩ | exact ⟨r.int_inv, rfl⟩ | exact ⟨r.str_inv, rfl⟩) | cases h
theorem flats_rep {K : PySem.W.Frag} {cl : String → Option Addr} {I : Hp} : ∀ {ds : List D} {vs us : List V}, flats ds = some vs → Reps K cl I ds us → us = vs ∧ vs.all flatV = true
  | [], vs, us, h, r => by cases h; cases r; exact ⟨rfl, rfl⟩
  | d :: ds, vs, us, h, r => by
    unfold flats at h
    cases e : d.flat? with
    | none => rw [e] at h; cases h
    | some v =>
      rw [e] at h
      cases e2 : flats ds with
      | none => rw [e2] at h; cases h
      | some ws =>
        rw [e2] at h
        cases h
        cases r with
        | cons r1 r2 =>
          obtain ⟨rfl, h1⟩ := flat_rep e r1
          obtain ⟨rfl, h2⟩ := flats_rep e2 r2
          exact ⟨rfl, by rw [List.all_cons, h1, h2]; rfl⟩
theorem Rb.flat {I H : Hp} {d : D} {v u : V} (h : d.flat? = some v) (r : Rb Z I H d u) : u = v ∧ flatV v = true := by
  rcases r with r | ⟨a, rfl, o, _, r⟩
  · exact flat_rep h r
  · cases r <;> cases h
def Str.sign? (s : Str) : Option Nat := match s.cps.toList with
  | [c] => some c
  | _ => none
def dIn (neg : Bool) (x y : D) : Option D := match y with
  | .str z => match x with
    | .str s => some (.bl (match Str.sign? s with
      | some c => if neg then !decide (c ∈ z.cps.toList) else decide (c ∈ z.cps.toList)
      | none => if neg then !(!(Builtin.Str.occurrences z s 0 z.length 1).isEmpty) else !(Builtin.Str.occurrences z s 0 z.length 1).isEmpty))
    | _ => none
  | _ => y.items?.bind fun ds => (flats ds).bind fun vs => x.flat?.map fun v => .bl (if neg then !inV v vs else inV v vs)
def rInE (K : PySem.W.Frag) : R2 := fun x y H Q => (∃ (c : Nat) (z : Str), x = .str ⟨#[c]⟩ ∧ y = .str z ∧ Q (.bl (decide (c ∈ z.cps.toList))) H) ∨ (∃ i j, x = .str i ∧ y = .str j ∧ Q (.bl (!(Builtin.Str.occurrences j i 0 j.length 1).isEmpty)) H) ∨ rIn K false x y H Q
def rNinE (K : PySem.W.Frag) : R2 := fun x y H Q => (∃ (c : Nat) (z : Str), x = .str ⟨#[c]⟩ ∧ y = .str z ∧ Q (.bl (!decide (c ∈ z.cps.toList))) H) ∨ (∃ i j, x = .str i ∧ y = .str j ∧ Q (.bl (!(!(Builtin.Str.occurrences j i 0 j.length 1).isEmpty))) H) ∨ rIn K true x y H Q
theorem or_in {X : Cx} (h : InF Z X) : OpR X (compareOp .In) (rInE Z.K) := by
  rw [← h.K]
  exact OpR.or op_in_sign (OpR.or op_in_str op_in_seq)
theorem or_nin {X : Cx} (h : InF Z X) : OpR X (compareOp .NotIn) (rNinE Z.K) := by
  rw [← h.K]
  exact OpR.or op_notIn_sign (OpR.or op_notin_str op_notIn_seq)
theorem sign_str {s : Str} {c : Nat} (h : Str.sign? s = some c) : s = ⟨#[c]⟩ := by
  unfold Str.sign? at h
  obtain ⟨a⟩ := s
  split at h
  · rename_i d e
    cases h
    have : a = #[c] := by
      have q := congrArg List.toArray e
      simpa using q
    rw [this]
  · cases h
theorem dIn_inv {neg : Bool} {x y z : D} (h : dIn neg x y = some z) :
    (∃ s t, x = .str s ∧ y = .str t ∧ z = .bl (match Str.sign? s with
      | some c => if neg then !decide (c ∈ t.cps.toList) else decide (c ∈ t.cps.toList)
      | none => if neg then !(!(Builtin.Str.occurrences t s 0 t.length 1).isEmpty) else !(Builtin.Str.occurrences t s 0 t.length 1).isEmpty)) ∨
    ∃ ds vs v, y.items? = some ds ∧ flats ds = some vs ∧ x.flat? = some v ∧ z = .bl (if neg then !inV v vs else inV v vs) := by
  unfold dIn at h
  split at h
  · split at h
    · cases h; exact .inl ⟨_, _, rfl, rfl, rfl⟩
    · cases h
  · refine .inr ?_
    cases e1 : y.items? with
    | none => rw [e1] at h; cases h
    | some ds =>
      rw [e1] at h
      simp only [Option.bind_some] at h
      cases e2 : flats ds with
      | none => rw [e2] at h; cases h
      | some vs =>
        rw [e2] at h
        simp only [Option.bind_some] at h
        cases e3 : x.flat? with
        | none => rw [e3] at h; cases h
        | some v => rw [e3] at h; cases h; exact ⟨_, _, _, rfl, e2, rfl, rfl⟩
theorem Rb.items {I H : Hp} (s : Same I H) {d : D} {xs : List D} {v : V} (h : d.items? = some xs) (r : Rb Z I H d v) : ∃ a vs, v = .ref a ∧ (SqL Z.K H a vs ∨ SqT Z.K H a vs) ∧ Reps Z.K Z.cl I xs vs := by
  unfold D.items? at h
  split at h
  · cases h; obtain ⟨a, vs, e, h1, h2⟩ := r.lst s; exact ⟨a, vs, e, .inl (SqL.of h1), h2⟩
  · cases h; obtain ⟨a, vs, e, h1, h2⟩ := r.scr s; exact ⟨a, vs, e, .inl h1, h2⟩
  · cases h; obtain ⟨a, vs, e, h1, h2⟩ := r.tup s; exact ⟨a, vs, e, .inr h1, h2⟩
  · cases h
theorem ok_in : RuleOk Z (rInE Z.K) (dIn false) := by
  intro I H x y z vx vy Q s rx ry h k
  rcases dIn_inv h with ⟨a, b, rfl, rfl, rfl⟩ | ⟨ds, vs, v, h1, h2, h3, rfl⟩
  · cases rx.str; cases ry.str
    cases e : Str.sign? a with
    | some c =>
      rw [e] at k
      cases sign_str e
      exact .inl ⟨c, b, rfl, rfl, k _ .bl⟩
    | none => rw [e] at k; exact .inr (.inl ⟨a, b, rfl, rfl, k _ .bl⟩)
  · obtain ⟨p, us, rfl, h4, h5⟩ := ry.items s h1
    obtain ⟨rfl, h6⟩ := flats_rep h2 h5
    obtain ⟨rfl, h7⟩ := rx.flat h3
    exact .inr (.inr ⟨p, us, rfl, h4, h7, h6, k _ .bl⟩)
theorem ok_nin : RuleOk Z (rNinE Z.K) (dIn true) := by
  intro I H x y z vx vy Q s rx ry h k
  rcases dIn_inv h with ⟨a, b, rfl, rfl, rfl⟩ | ⟨ds, vs, v, h1, h2, h3, rfl⟩
  · cases rx.str; cases ry.str
    cases e : Str.sign? a with
    | some c =>
      rw [e] at k
      cases sign_str e
      exact .inl ⟨c, b, rfl, rfl, k _ .bl⟩
    | none => rw [e] at k; exact .inr (.inl ⟨a, b, rfl, rfl, k _ .bl⟩)
  · obtain ⟨p, us, rfl, h4, h5⟩ := ry.items s h1
    obtain ⟨rfl, h6⟩ := flats_rep h2 h5
    obtain ⟨rfl, h7⟩ := rx.flat h3
    exact .inr (.inr ⟨p, us, rfl, h4, h7, h6, k _ .bl⟩)
/-! ### k in d, d[k] -/
def D.key? : D → Option Key
  | .int i => some (.inl i)
  | .str s => some (.inr s)
  | _ => none
def lookD (ks : List Key) (xs : List D) (k : Key) : Option D := ((ks.zip xs).find? fun p => decide (p.1 = k)).map (·.2)
theorem look_rep {K : PySem.W.Frag} {cl : String → Option Addr} {I : Hp} {k : Key} : ∀ {ks : List Key} {xs : List D} {vs : List V}, Reps K cl I xs vs →
    (lookD ks xs k = none ∧ valV (ks.zip vs) k = none) ∨ ∃ d v, lookD ks xs k = some d ∧ valV (ks.zip vs) k = some v ∧ Rep K cl I d v
  | [], xs, vs, r => .inl ⟨rfl, rfl⟩
  | q :: ks, [], [], .nil => .inl ⟨rfl, rfl⟩
  | q :: ks, d :: ds, v :: vs, .cons r1 r2 => by
    by_cases e : q = k
    · refine .inr ⟨d, v, ?_, ?_, r1⟩
      · simp [lookD, List.find?_cons, e]
      · rw [List.zip_cons_cons]; exact valV_pos e
    · have h1 : lookD (q :: ks) (d :: ds) k = lookD ks ds k := by simp [lookD, List.find?_cons, e]
      rw [h1, List.zip_cons_cons, valV_neg (p := (q, v)) e]
      exact look_rep r2
def dInD (neg : Bool) (x y : D) : Option D := match y with
  | .dic ks xs => x.key?.map fun k => .bl (if neg then !(lookD ks xs k).isSome else (lookD ks xs k).isSome)
  | _ => none
theorem key_rep {I H : Hp} {d : D} {k : Key} {v : V} (h : d.key? = some k) (r : Rb Z I H d v) : v = kV k := by
  cases d <;> simp only [D.key?] at h <;> first | (cases h; first | exact r.int | exact r.str) | cases h
def rDIn (neg : Bool) : R2 := fun y x H Q => ∃ a o, x = .ref a ∧ DGet H a y o ∧ Q (.bl (if neg then !o.isSome else o.isSome)) H
theorem ok_inD {neg : Bool} : RuleOk Z (rDIn neg) (dInD neg) := by
  intro I H x y z vx vy Q s rx ry h k
  unfold dInD at h
  split at h
  · rename_i ks xs
    cases e : x.key? with
    | none => rw [e] at h; cases h
    | some q =>
      rw [e] at h
      cases h
      obtain ⟨a, vs, rfl, h1, h2, h3⟩ := ry.dic s
      have hk := key_rep e rx
      subst hk
      have hs : (valV (ks.zip vs) q).isSome = (lookD ks xs q).isSome := by
        rcases look_rep (k := q) (ks := ks) h2 with ⟨e1, e2⟩ | ⟨d, v, e1, e2, _⟩ <;> rw [e1, e2] <;> rfl
      refine ⟨a, _, rfl, .inl ⟨_, q, h1, rfl, rfl⟩, ?_⟩
      rw [hs]
      exact k _ .bl
  · cases h
theorem huOf {X : Cx} (h : InF Z X) : X.A.units + 1 < cLine := hu_of h.room
theorem ev_inD {a b : Expr} {ma mb : ML} {pos : Pos} (ha : LV Z a ma) (hb : LV Z b mb) (hm : behindInMarks .In b = false := by rfl) : EV Z (.Compare a [.In] [b] pos) (mBin (dInD false) ma mb) := by
  obtain ⟨ta, a1, a2⟩ := ha
  obtain ⟨tb, b1, b2⟩ := hb
  exact ⟨tOp (rDIn false) ta tb, fun X h => pe_cmp (pc_din (huOf h) (a1 X h) (b1 X h)) hm, bin_se ok_inD a2 b2⟩
theorem ev_ninD {a b : Expr} {ma mb : ML} {pos : Pos} (ha : LV Z a ma) (hb : LV Z b mb) (hm : behindInMarks .NotIn b = false := by rfl) : EV Z (.Compare a [.NotIn] [b] pos) (mBin (dInD true) ma mb) := by
  obtain ⟨ta, a1, a2⟩ := ha
  obtain ⟨tb, b1, b2⟩ := hb
  exact ⟨tOp (rDIn true) ta tb, fun X h => pe_cmp (pc_dnotin (huOf h) (a1 X h) (b1 X h)) hm, bin_se ok_inD a2 b2⟩
theorem tv_inD {a b : Expr} {ma mb : ML} {pos : Pos} (ha : LV Z a ma) (hb : LV Z b mb) (hm : behindInMarks .In b = false := by rfl) : TV Z (.Compare a [.In] [b] pos) (mTest (mBin (dInD false) ma mb)) := by
  obtain ⟨ta, a1, a2⟩ := ha
  obtain ⟨tb, b1, b2⟩ := hb
  refine ⟨tB (tOp (rDIn false) ta tb), fun X h => pt_cmp (pc_din (huOf h) (a1 X h) (b1 X h)) hm, fun g env σ I H Q c env' R hm k => ?_⟩
  refine bin_se ok_inD a2 b2 g env σ I H _ _ env' R (mTest_inv hm) fun v I' H' R' s rv => ⟨c, rv.bl_inv, k I' H' R' s⟩
theorem tv_ninD {a b : Expr} {ma mb : ML} {pos : Pos} (ha : LV Z a ma) (hb : LV Z b mb) (hm : behindInMarks .NotIn b = false := by rfl) : TV Z (.Compare a [.NotIn] [b] pos) (mTest (mBin (dInD true) ma mb)) := by
  obtain ⟨ta, a1, a2⟩ := ha
  obtain ⟨tb, b1, b2⟩ := hb
  refine ⟨tB (tOp (rDIn true) ta tb), fun X h => pt_cmp (pc_dnotin (huOf h) (a1 X h) (b1 X h)) hm, fun g env σ I H Q c env' R hm k => ?_⟩
  refine bin_se ok_inD a2 b2 g env σ I H _ _ env' R (mTest_inv hm) fun v I' H' R' s rv => ⟨c, rv.bl_inv, k I' H' R' s⟩
/-! ### x[i] -/
def dIx : D → D → Option D
  | .lst xs, .int i => atI xs i
  | .scr xs, .int i => atI xs i
  | .tup xs, .int i => atI xs i
  | .str z, .int i => if z.length ≤ sizeLine then (atI z.cps.toList i).map fun c => .str ⟨#[c]⟩ else none
  | _, _ => none
theorem atI_rep {K : PySem.W.Frag} {cl : String → Option Addr} {I : Hp} {xs : List D} {vs : List V} {i : Int} {d : D} (r : Reps K cl I xs vs) (h : atI xs i = some d) : ∃ v, atI vs i = some v ∧ Rep K cl I d v := by
  unfold atI at h ⊢
  rw [← r.length]
  cases e : ixN xs.length i with
  | none => rw [e] at h; cases h
  | some j =>
    rw [e] at h
    exact r.get (show xs[j]? = some d from h)
theorem ok_ix : RuleOk Z (rIx Z.K) dIx := by
  intro I H x y z vx vy Q s rx ry h k
  unfold dIx at h
  split at h
  · obtain ⟨a, vs, rfl, h1, h2⟩ := rx.lst s
    cases ry.int
    obtain ⟨v, h3, h4⟩ := atI_rep h2 h
    exact .inl ⟨a, vs, _, v, rfl, rfl, SqL.of h1, h3, k _ h4⟩
  · obtain ⟨a, vs, rfl, h1, h2⟩ := rx.scr s
    cases ry.int
    obtain ⟨v, h3, h4⟩ := atI_rep h2 h
    exact .inl ⟨a, vs, _, v, rfl, rfl, h1, h3, k _ h4⟩
  · obtain ⟨a, vs, rfl, h1, h2⟩ := rx.tup s
    cases ry.int
    obtain ⟨v, h3, h4⟩ := atI_rep h2 h
    exact .inr (.inl ⟨a, vs, _, v, rfl, rfl, h1, h3, k _ h4⟩)
  · rename_i zz i
    split at h
    · rename_i hl
      cases rx.str; cases ry.int
      cases e : atI zz.cps.toList i with
      | none => rw [e] at h; cases h
      | some c => rw [e] at h; cases h; exact .inr (.inr ⟨_, _, c, rfl, rfl, hl, e, k _ .str⟩)
    · cases h
  · cases h
theorem or_ix {X : Cx} (h : InF Z X) : IxR X (rIx Z.K) := by
  rw [← h.K]
  exact ix_seq
theorem ev_ix {a b : Expr} {ma mb : ML} {pos : Pos} (ha : LV Z a ma) (hb : LV Z b mb) (hs : PlainIx b := by exact fun _ _ => rfl) : EV Z (.Subscript a b pos) (mBin dIx ma mb) := by
  obtain ⟨ta, a1, a2⟩ := ha
  obtain ⟨tb, b1, b2⟩ := hb
  exact ⟨_, fun X h => pe_ix (or_ix h) (a1 X h) (b1 X h) hs, bin_se ok_ix a2 b2⟩
/-- d[k] -/
def dGet : D → D → Option D
  | .dic ks xs, k => k.key?.bind fun q => lookD ks xs q
  | _, _ => none
def rDGet : R2 := fun x y H Q => ∃ a v, x = .ref a ∧ DGet H a y (some v) ∧ Q v H
theorem ok_get : RuleOk Z rDGet dGet := by
  intro I H x y z vx vy Q s rx ry h k
  unfold dGet at h
  split at h
  · rename_i ks xs
    cases e : y.key? with
    | none => rw [e] at h; cases h
    | some q =>
      rw [e] at h
      obtain ⟨a, vs, rfl, h1, h2, h3⟩ := rx.dic s
      have hk := key_rep e ry
      subst hk
      rcases look_rep (k := q) (ks := ks) h2 with ⟨e1, e2⟩ | ⟨d, v, e1, e2, r⟩
      · change lookD ks xs q = some z at h
        rw [e1] at h; cases h
      · change lookD ks xs q = some z at h
        rw [e1] at h; cases h
        exact ⟨a, v, rfl, .inl ⟨_, q, h1, rfl, e2.symm⟩, k _ r⟩
  · cases h
theorem ev_dget {a b : Expr} {ma mb : ML} {pos : Pos} (ha : LV Z a ma) (hb : LV Z b mb) (hs : NoSl b := by exact fun _ _ => rfl) : EV Z (.Subscript a b pos) (mBin dGet ma mb) := by
  obtain ⟨ta, a1, a2⟩ := ha
  obtain ⟨tb, b1, b2⟩ := hb
  exact ⟨tOp rDGet ta tb, fun X h => pe_dget (huOf h) (a1 X h) (b1 X h) hs, bin_se ok_get a2 b2⟩
end
end Q
namespace Q
open PySem L2
section
variable {Z : Zc}
/-! ### and, or, not, if .. else -/
def mAnd (a b : MT) : MT := fun env => (a env).bind fun p => if p.1 then b p.2 else some (false, p.2)
def mOr (a b : MT) : MT := fun env => (a env).bind fun p => if p.1 then some (true, p.2) else b p.2
def mNot (a : MT) : MT := fun env => (a env).map fun p => (!p.1, p.2)
def WV (Z : Zc) (e : Expr) (m : MT) : Prop := ∃ t, (∀ X, InF Z X → PW X e t) ∧ ST Z t m
theorem WV.tv {e : Expr} {m : MT} (h : WV Z e m) : TV Z e m := let ⟨t, h1, h2⟩ := h; ⟨t, fun X i => (h1 X i).pt, h2⟩
theorem wv_and1 {a : Expr} {m : MT} {pos : Pos} (h : TV Z a m) : WV Z (.BoolOp .And [a] pos) m := let ⟨t, h1, h2⟩ := h; ⟨t, fun X i => pw_and1 (h1 X i), h2⟩
theorem wv_or1 {a : Expr} {m : MT} {pos : Pos} (h : TV Z a m) : WV Z (.BoolOp .Or [a] pos) m := let ⟨t, h1, h2⟩ := h; ⟨t, fun X i => pw_or1 (h1 X i), h2⟩
theorem st_and {ta tb : TT} {ma mb : MT} (ha : ST Z ta ma) (hb : ST Z tb mb) : ST Z (tAnd ta tb) (mAnd ma mb) := by
  intro g env σ I H Q c env' R hm k
  unfold mAnd at hm
  cases e : ma env with
  | none => rw [e] at hm; cases hm
  | some p =>
    obtain ⟨b, e1⟩ := p
    rw [e] at hm
    simp only [Option.bind_some] at hm
    refine ha g env σ I H _ b e1 R e fun I1 H1 R1 s1 => ?_
    cases b with
    | true => exact hb g e1 σ I1 H1 Q c env' R1 hm fun I2 H2 R2 s2 => k I2 H2 R2 (s1.trans s2)
    | false => cases hm; exact k I1 H1 R1 s1
theorem st_or {ta tb : TT} {ma mb : MT} (ha : ST Z ta ma) (hb : ST Z tb mb) : ST Z (tOr ta tb) (mOr ma mb) := by
  intro g env σ I H Q c env' R hm k
  unfold mOr at hm
  cases e : ma env with
  | none => rw [e] at hm; cases hm
  | some p =>
    obtain ⟨b, e1⟩ := p
    rw [e] at hm
    simp only [Option.bind_some] at hm
    refine ha g env σ I H _ b e1 R e fun I1 H1 R1 s1 => ?_
    cases b with
    | false => exact hb g e1 σ I1 H1 Q c env' R1 hm fun I2 H2 R2 s2 => k I2 H2 R2 (s1.trans s2)
    | true => cases hm; exact k I1 H1 R1 s1
theorem wv_and {a b : Expr} {r : List Expr} {ma mb : MT} {pos : Pos} (ha : TV Z a ma) (hb : WV Z (.BoolOp .And (b :: r) pos) mb) : WV Z (.BoolOp .And (a :: b :: r) pos) (mAnd ma mb) := by
  obtain ⟨ta, a1, a2⟩ := ha
  obtain ⟨tb, b1, b2⟩ := hb
  exact ⟨_, fun X h => pw_and (a1 X h) (b1 X h), st_and a2 b2⟩
theorem wv_or {a b : Expr} {r : List Expr} {ma mb : MT} {pos : Pos} (ha : TV Z a ma) (hb : WV Z (.BoolOp .Or (b :: r) pos) mb) : WV Z (.BoolOp .Or (a :: b :: r) pos) (mOr ma mb) := by
  obtain ⟨ta, a1, a2⟩ := ha
  obtain ⟨tb, b1, b2⟩ := hb
  exact ⟨_, fun X h => pw_or (a1 X h) (b1 X h), st_or a2 b2⟩
theorem tv_not {a : Expr} {ma : MT} {pos : Pos} (ha : TV Z a ma) : TV Z (.UnaryOp .Not a pos) (mNot ma) := by
  obtain ⟨ta, a1, a2⟩ := ha
  refine ⟨_, fun X h => pt_not (a1 X h), fun g env σ I H Q c env' R hm k => ?_⟩
  unfold mNot at hm
  cases e : ma env with
  | none => rw [e] at hm; cases hm
  | some p =>
    rw [e] at hm; cases hm
    exact a2 g env σ I H _ p.1 p.2 R e fun I1 H1 R1 s1 => k I1 H1 R1 s1
/-- .. as values: all are True or False -/
def mAndV (a b : ME) : ME := fun env => (mTest a env).bind fun p => if p.1 then b p.2 else some (.bl false, p.2)
def mOrV (a b : ME) : ME := fun env => (mTest a env).bind fun p => if p.1 then some (.bl true, p.2) else b p.2
def mNotV (a : ME) : ME := fun env => (mTest a env).map fun p => (.bl (!p.1), p.2)
theorem ev_one {a : Expr} {op} {m : ME} {pos : Pos} (h : EV Z a m) : EV Z (.BoolOp op [a] pos) m := let ⟨t, h1, h2⟩ := h; ⟨t, fun X i => pe_one (h1 X i), h2⟩
theorem ev_and {a b : Expr} {r : List Expr} {ma mb : ME} {pos : Pos} (ha : EV Z a ma) (hb : EV Z (.BoolOp .And (b :: r) pos) mb) : EV Z (.BoolOp .And (a :: b :: r) pos) (mAndV ma mb) := by
  obtain ⟨ta, a1, a2⟩ := ha
  obtain ⟨tb, b1, b2⟩ := hb
  refine ⟨_, fun X h => pe_and (a1 X h) (b1 X h), fun g env σ I H Q c env' R hm k => ?_⟩
  unfold mAndV at hm
  cases e : mTest ma env with
  | none => rw [e] at hm; cases hm
  | some p =>
    obtain ⟨b, e1⟩ := p
    rw [e] at hm
    simp only [Option.bind_some] at hm
    refine a2 g env σ I H _ _ e1 R (mTest_inv e) fun v I1 H1 R1 s1 r1 => ⟨b, r1.bl_inv, ?_⟩
    cases b with
    | true => exact b2 g e1 σ I1 H1 Q c env' R1 hm fun v I2 H2 R2 s2 => k v I2 H2 R2 (s1.trans s2)
    | false => cases hm; exact k _ I1 H1 R1 s1 .bl
theorem ev_or {a b : Expr} {r : List Expr} {ma mb : ME} {pos : Pos} (ha : EV Z a ma) (hb : EV Z (.BoolOp .Or (b :: r) pos) mb) : EV Z (.BoolOp .Or (a :: b :: r) pos) (mOrV ma mb) := by
  obtain ⟨ta, a1, a2⟩ := ha
  obtain ⟨tb, b1, b2⟩ := hb
  refine ⟨_, fun X h => pe_or (a1 X h) (b1 X h), fun g env σ I H Q c env' R hm k => ?_⟩
  unfold mOrV at hm
  cases e : mTest ma env with
  | none => rw [e] at hm; cases hm
  | some p =>
    obtain ⟨b, e1⟩ := p
    rw [e] at hm
    simp only [Option.bind_some] at hm
    refine a2 g env σ I H _ _ e1 R (mTest_inv e) fun v I1 H1 R1 s1 r1 => ⟨b, r1.bl_inv, ?_⟩
    cases b with
    | false => exact b2 g e1 σ I1 H1 Q c env' R1 hm fun v I2 H2 R2 s2 => k v I2 H2 R2 (s1.trans s2)
    | true => cases hm; exact k _ I1 H1 R1 s1 .bl
theorem ev_not {a : Expr} {ma : ME} {pos : Pos} (ha : EV Z a ma) : EV Z (.UnaryOp .Not a pos) (mNotV ma) := by
  obtain ⟨ta, a1, a2⟩ := ha
  refine ⟨_, fun X h => pe_not (a1 X h), fun g env σ I H Q c env' R hm k => ?_⟩
  unfold mNotV at hm
  cases e : mTest ma env with
  | none => rw [e] at hm; cases hm
  | some p =>
    obtain ⟨b, e1⟩ := p
    rw [e] at hm; cases hm
    exact a2 g env σ I H _ _ e1 R (mTest_inv e) fun v I1 H1 R1 s1 r1 => ⟨b, r1.bl_inv, k _ I1 H1 R1 s1 .bl⟩
def mIf (c : MT) (a b : ME) : ME := fun env => (c env).bind fun p => if p.1 then a p.2 else b p.2
theorem ev_if {c a b : Expr} {mc : MT} {ma mb : ME} {pos : Pos} (hc : TV Z c mc) (ha : EV Z a ma) (hb : EV Z b mb) : EV Z (.IfExp c a b pos) (mIf mc ma mb) := by
  obtain ⟨tc, c1, c2⟩ := hc
  obtain ⟨ta, a1, a2⟩ := ha
  obtain ⟨tb, b1, b2⟩ := hb
  refine ⟨_, fun X h => pe_ifExp (c1 X h) (a1 X h) (b1 X h), fun g env σ I H Q d env' R hm k => ?_⟩
  unfold mIf at hm
  cases e : mc env with
  | none => rw [e] at hm; cases hm
  | some p =>
    obtain ⟨b, e1⟩ := p
    rw [e] at hm
    simp only [Option.bind_some] at hm
    refine c2 g env σ I H _ b e1 R e fun I1 H1 R1 s1 => ?_
    cases b with
    | true => exact a2 g e1 σ I1 H1 Q d env' R1 hm fun v I2 H2 R2 s2 => k v I2 H2 R2 (s1.trans s2)
    | false => exact b2 g e1 σ I1 H1 Q d env' R1 hm fun v I2 H2 R2 s2 => k v I2 H2 R2 (s1.trans s2)
/-- a test whose value is True or False (no comparison, no and, or, not) -/
theorem tv_val {e : Expr} {m : ME} (h : EV Z e m) (he : ∀ (env : Env) whole, isTrue e env whole = (do let v ← whole; standAt e.pos; holding [v] (truthy v)) := by intro _ _; rfl) : TV Z e (mTest m) := by
  obtain ⟨t, h1, h2⟩ := h
  refine ⟨_, fun X i => pt_val (h1 X i) (he _), fun g env σ I H Q c env' R hm k => ?_⟩
  exact h2 g env σ I H _ _ env' R (mTest_inv hm) fun v I' H' R' s rv => ⟨c, rv.bl_inv, k I' H' R' s⟩
/-- the truth of what may be read -/
def dTru : D → Option Bool
  | .non => some false
  | .bl b => some b
  | .int i => some (i != 0)
  | .str y => if y.length ≤ sizeLine then some ((y.length : Int) != 0) else none
  | .lst xs => some (!xs.isEmpty)
  | .scr xs => some (!xs.isEmpty)
  | .tup xs => some (!xs.isEmpty)
  | _ => none
theorem Reps.emp {K : PySem.W.Frag} {cl : String → Option Addr} {I : Hp} {xs : List D} {vs : List V} (r : Reps K cl I xs vs) : xs.isEmpty = vs.isEmpty := by
  cases r <;> rfl
theorem tru_rb {I H : Hp} (s : Same I H) {d : D} {b : Bool} {v : V} (h : dTru d = some b) (r : Rb Z I H d v) : TruV Z.K v H b := by
  cases d with
  | non => cases h; cases r.non; rfl
  | bl => cases h; cases r.bl; rfl
  | int => cases h; cases r.int; rfl
  | str y =>
    simp only [dTru] at h
    split at h
    · rename_i hl; cases h; cases r.str; exact ⟨hl, rfl⟩
    · cases h
  | lst xs => cases h; obtain ⟨a, vs, rfl, h1, h2⟩ := r.lst s; exact .inl ⟨vs, SqL.of h1, by rw [h2.emp]⟩
  | scr xs => cases h; obtain ⟨a, vs, rfl, h1, h2⟩ := r.scr s; exact .inl ⟨vs, h1, by rw [h2.emp]⟩
  | tup xs => cases h; obtain ⟨a, vs, rfl, h1, h2⟩ := r.tup s; exact .inr (.inl ⟨vs, h1, by rw [h2.emp]⟩)
  | dic => cases h
  | obj => cases h
  | dcn => cases h
  | typ => cases h
def mTru (m : ML) : MT := fun env => (m env).bind fun p => (p.1.get p.2).bind fun d => (dTru d).map fun b => (b, p.2)
theorem tv_tru {e : Expr} {m : ML} (h : LV Z e m) (he : ∀ (env : Env) whole, isTrue e env whole = (do let v ← whole; standAt e.pos; holding [v] (truthy v)) := by intro _ _; rfl) : TV Z e (mTru m) := by
  obtain ⟨t, h1, h2⟩ := h
  refine ⟨fun σ H Q => t σ H fun x H1 => ∃ k, TruV Z.K x H1 k ∧ Q k H1, fun X i => ?_, fun g env σ I H Q c env' R hm k => ?_⟩
  · have q := pt_truth (X := X) (h1 X i) (he _)
    rw [i.K] at q
    exact q
  · unfold mTru at hm
    cases e1 : m env with
    | none => rw [e1] at hm; cases hm
    | some p =>
      obtain ⟨l, en⟩ := p
      rw [e1] at hm
      simp only [Option.bind_some] at hm
      cases e2 : l.get en with
      | none => rw [e2] at hm; cases hm
      | some d =>
        rw [e2] at hm
        simp only [Option.bind_some] at hm
        cases e3 : dTru d with
        | none => rw [e3] at hm; cases hm
        | some b =>
          rw [e3] at hm
          cases hm
          exact h2 g env σ I H _ l env' R e1 fun v I' H' R' s o => ⟨_, tru_rb R'.sub e3 (Ls.rb R' o e2), k I' H' R' s⟩
/-! ### a < b < c -/
def mChain (f f' : D → D → Option D) (a b c : ML) : ME := fun env => (a env).bind fun p => (b p.2).bind fun q => (p.1.get q.2).bind fun x => (q.1.get q.2).bind fun y => (f x y).bind fun z => match z with
  | .bl true => (c q.2).bind fun r => (q.1.get r.2).bind fun y => (r.1.get r.2).bind fun w => (f' y w).map fun z => (z, r.2)
  | .bl false => some (.bl false, q.2)
  | _ => none
theorem chain_se {r r' : R2} {f f' : D → D → Option D} {ta tb tc : TE} {ma mb mc : ML} (hr : RuleOk Z r f) (hr' : RuleOk Z r' f') (ha : SL Z ta ma) (hb : SL Z tb mb) (hc : SL Z tc mc) : SE Z (tChain r r' ta tb tc) (mChain f f' ma mb mc) := by
  intro g env σ I H Q d env' R hm k
  unfold mChain at hm
  cases h1 : ma env with
  | none => rw [h1] at hm; cases hm
  | some p =>
    obtain ⟨la, e1⟩ := p
    rw [h1] at hm; simp only [Option.bind_some] at hm
    cases h2 : mb e1 with
    | none => rw [h2] at hm; cases hm
    | some p =>
      obtain ⟨lb, e2⟩ := p
      rw [h2] at hm; simp only [Option.bind_some] at hm
      cases h3 : la.get e2 with
      | none => rw [h3] at hm; cases hm
      | some x =>
        rw [h3] at hm; simp only [Option.bind_some] at hm
        cases h4 : lb.get e2 with
        | none => rw [h4] at hm; cases hm
        | some y =>
          rw [h4] at hm; simp only [Option.bind_some] at hm
          cases h5 : f x y with
          | none => rw [h5] at hm; cases hm
          | some z =>
            rw [h5] at hm; simp only [Option.bind_some] at hm
            refine ha g env σ I H _ la e1 R h1 fun vx I1 H1 R1 s1 o1 => ?_
            refine hb g e1 σ I1 H1 _ lb e2 R1 h2 fun vy I2 H2 R2 s2 o2 => ?_
            refine hr I2 H2 x y z vx vy _ R2.sub (Ls.rb R2 (o1.mono s2) h3) (Ls.rb R2 o2 h4) h5 fun vz rz => ?_
            split at hm
            · refine ⟨true, rz.bl_inv, ?_⟩
              show tc σ H2 _
              cases h6 : mc e2 with
              | none => rw [h6] at hm; cases hm
              | some p =>
                obtain ⟨lc, e3⟩ := p
                rw [h6] at hm; simp only [Option.bind_some] at hm
                cases h7 : lb.get e3 with
                | none => rw [h7] at hm; cases hm
                | some y' =>
                  rw [h7] at hm; simp only [Option.bind_some] at hm
                  cases h8 : lc.get e3 with
                  | none => rw [h8] at hm; cases hm
                  | some w =>
                    rw [h8] at hm; simp only [Option.bind_some] at hm
                    cases h9 : f' y' w with
                    | none => rw [h9] at hm; cases hm
                    | some u =>
                      rw [h9] at hm; cases hm
                      refine hc g e2 σ I2 H2 _ lc env' R2 h6 fun vw I3 H3 R3 s3 o3 => ?_
                      exact hr' I3 H3 y' w d vy vw Q R3.sub (Ls.rb R3 (o2.mono s3) h7) (Ls.rb R3 o3 h8) h9 fun vz rz => k vz I3 H3 R3 ((s1.trans s2).trans s3) rz
            · cases hm
              refine ⟨false, rz.bl_inv, ?_⟩
              show Q (.bl false) H2
              exact k _ I2 H2 R2 (s1.trans s2) .bl
            · cases hm
theorem ev_chain {op op' : CmpOp} {r r' : R2} {f f' : D → D → Option D} {a b c : Expr} {ma mb mc : ML} {pos : Pos} (ho : ∀ X, InF Z X → OpR X (compareOp op) r) (ho' : ∀ X, InF Z X → OpR X (compareOp op') r') (hr : RuleOk Z r f) (hr' : RuleOk Z r' f')
    (ha : LV Z a ma) (hb : LV Z b mb) (hc : LV Z c mc) (hm : lastMarks [op, op'] [b, c] = false := by with_unfolding_all rfl) : EV Z (.Compare a [op, op'] [b, c] pos) (mChain f f' ma mb mc) := by
  obtain ⟨ta, a1, a2⟩ := ha
  obtain ⟨tb, b1, b2⟩ := hb
  obtain ⟨tc, c1, c2⟩ := hc
  exact ⟨_, fun X h => pe_chain (ho X h) (ho' X h) (a1 X h) (b1 X h) (c1 X h) hm, chain_se hr hr' a2 b2 c2⟩
theorem tv_chain {op op' : CmpOp} {r r' : R2} {f f' : D → D → Option D} {a b c : Expr} {ma mb mc : ML} {pos : Pos} (ho : ∀ X, InF Z X → OpR X (compareOp op) r) (ho' : ∀ X, InF Z X → OpR X (compareOp op') r') (hr : RuleOk Z r f) (hr' : RuleOk Z r' f')
    (ha : LV Z a ma) (hb : LV Z b mb) (hc : LV Z c mc) (hm : lastMarks [op, op'] [b, c] = false := by with_unfolding_all rfl) : TV Z (.Compare a [op, op'] [b, c] pos) (mTest (mChain f f' ma mb mc)) := by
  obtain ⟨ta, a1, a2⟩ := ha
  obtain ⟨tb, b1, b2⟩ := hb
  obtain ⟨tc, c1, c2⟩ := hc
  refine ⟨_, fun X h => pt_chain (ho X h) (ho' X h) (a1 X h) (b1 X h) (c1 X h) hm, fun g env σ I H Q c env' R hm k => ?_⟩
  exact chain_se hr hr' a2 b2 c2 g env σ I H _ _ env' R (mTest_inv hm) fun v I' H' R' s rv => ⟨c, rv.bl_inv, k I' H' R' s⟩
end
end Q
namespace Q
open PySem L2
section
variable {Z : Zc}
theorem boot_range : bootBuiltins "range" = some (.type "range") := by decide +kernel
/-! ### lists of expressions: fixed values; what may be read -/
def SA (Z : Zc) (t : TA) (m : En → Option (List D × En)) : Prop := ∀ (g : G) (env : En) (σ : St) (I H : Hp) (Q : List V → Hp → Prop) (ds : List D) (env' : En), SR Z.K Z.cl g env σ I H → m env = some (ds, env') →
  (∀ vs I' H', SR Z.K Z.cl g env' σ I' H' → Same I I' → Reps Z.K Z.cl I' ds vs → Q vs H') → t σ H Q
def AE (Z : Zc) (es : List Expr) (m : En → Option (List D × En)) : Prop := ∃ t, (∀ X, InF Z X → PA X es t) ∧ SA Z t m
def aNil : En → Option (List D × En) := fun env => some ([], env)
def aCons (a : ME) (r : En → Option (List D × En)) : En → Option (List D × En) := fun env => (a env).bind fun p => (r p.2).map fun q => (p.1 :: q.1, q.2)
theorem ae_nil : AE Z [] aNil := ⟨tNil, fun _ _ => pa_nil, fun g env σ I H Q ds env' R hm k => by cases hm; exact k [] I H R (Same.refl _) .nil⟩
theorem ae_cons {e : Expr} {es : List Expr} {m : ME} {r : En → Option (List D × En)} (h : EV Z e m) (hr : AE Z es r) (hs : ∀ env, starEach (e :: es) env = (false, eval e env) :: starEach es env := by intro _; rfl) : AE Z (e :: es) (aCons m r) := by
  obtain ⟨t, h1, h2⟩ := h
  obtain ⟨u, r1, r2⟩ := hr
  refine ⟨_, fun X i => pa_cons (h1 X i) (r1 X i) (hs _), fun g env σ I H Q ds env' R hm k => ?_⟩
  unfold aCons at hm
  cases e1 : m env with
  | none => rw [e1] at hm; cases hm
  | some p =>
    rw [e1] at hm
    simp only [Option.bind_some] at hm
    cases e2 : r p.2 with
    | none => rw [e2] at hm; cases hm
    | some q =>
      rw [e2] at hm; cases hm
      refine h2 g env σ I H _ p.1 p.2 R e1 fun v I1 H1 R1 s1 rv => ?_
      exact r2 g p.2 σ I1 H1 _ q.1 q.2 R1 e2 fun vs I2 H2 R2 s2 rs => k (v :: vs) I2 H2 R2 (s1.trans s2) (.cons (rv.mono s2) rs)
/-! ### displays -/
def mLst (a : En → Option (List D × En)) : ME := fun env => (a env).bind fun p => if p.1.length ≤ sizeLine then some (.lst p.1, p.2) else none
def mTup (a : En → Option (List D × En)) : ME := fun env => (a env).bind fun p => if p.1.length ≤ sizeLine then some (.tup p.1, p.2) else none
theorem ef_lst {es : List Expr} {m : En → Option (List D × En)} {pos : Pos} (h : AE Z es m) : EF Z (.List es pos) (mLst m) := by
  obtain ⟨t, h1, h2⟩ := h
  refine ⟨_, fun X i => pe_lst (h1 X i), fun g env σ I H Q d env' R hm k => ?_⟩
  unfold mLst at hm
  cases e1 : m env with
  | none => rw [e1] at hm; cases hm
  | some p =>
    rw [e1] at hm
    simp only [Option.bind_some] at hm
    split at hm
    · rename_i hl
      cases hm
      exact h2 g env σ I H _ p.1 p.2 R e1 fun vs I1 H1 R1 s1 rs => ⟨by rw [← rs.length]; exact hl, fun q hq => k q _ I1 _ (R1.alloc hq _) s1 (R1.new hq) (.lst rs)⟩
    · cases hm
theorem ev_tup {es : List Expr} {m : En → Option (List D × En)} {k : Nat} {pos : Pos} (h : AE Z es m) : EV Z (.Tuple es k pos) (mTup m) := by
  obtain ⟨t, h1, h2⟩ := h
  refine ⟨_, fun X i => pe_tup (h1 X i), fun g env σ I H Q d env' R hm k => ?_⟩
  unfold mTup at hm
  cases e1 : m env with
  | none => rw [e1] at hm; cases hm
  | some p =>
    rw [e1] at hm
    simp only [Option.bind_some] at hm
    split at hm
    · rename_i hl
      cases hm
      refine h2 g env σ I H _ p.1 p.2 R e1 fun vs I1 H1 R1 s1 rs => ⟨by rw [← rs.length]; exact hl, fun q hq => ?_⟩
      obtain ⟨R2, s2⟩ := (R1.alloc hq _).freeze (R1.new (o := .tup vs) hq)
      exact k _ _ _ R2 (s1.trans s2) (.tup (SqT.of upd_same) (rs.mono s2))
    · cases hm
/-! ### what may be read, as arguments of built-ins -/
inductive Rbs (Z : Zc) (I H : Hp) : List D → List V → Prop
  | nil : Rbs Z I H [] []
  | cons {d v ds vs} : Rb Z I H d v → Rbs Z I H ds vs → Rbs Z I H (d :: ds) (v :: vs)
def lsGet : List Ls → En → Option (List D)
  | [], _ => some []
  | l :: ls, env => (l.get env).bind fun d => (lsGet ls env).map fun ds => d :: ds
inductive LsOks (Z : Zc) (I : Hp) (σ : St) : List Ls → List V → Prop
  | nil : LsOks Z I σ [] []
  | cons {l v ls vs} : LsOk Z I σ l v → LsOks Z I σ ls vs → LsOks Z I σ (l :: ls) (v :: vs)
theorem lsGet_rbs {g : G} {env : En} {σ : St} {I H : Hp} (R : SR Z.K Z.cl g env σ I H) : ∀ {ls : List Ls} {vs : List V} {ds : List D}, LsOks Z I σ ls vs → lsGet ls env = some ds → Rbs Z I H ds vs
  | [], _, ds, .nil, h => by cases h; exact .nil
  | l :: ls, v :: vs, ds, .cons o os, h => by
    unfold lsGet at h
    cases e : l.get env with
    | none => rw [e] at h; cases h
    | some d =>
      rw [e] at h
      cases e2 : lsGet ls env with
      | none => rw [e2] at h; cases h
      | some es => rw [e2] at h; cases h; exact .cons (Ls.rb R o e) (lsGet_rbs R os e2)
def SB (Z : Zc) (t : TA) (m : En → Option (List Ls × En)) : Prop := ∀ (g : G) (env : En) (σ : St) (I H : Hp) (Q : List V → Hp → Prop) (ls : List Ls) (env' : En), SR Z.K Z.cl g env σ I H → m env = some (ls, env') →
  (∀ vs I' H', SR Z.K Z.cl g env' σ I' H' → Same I I' → LsOks Z I' σ ls vs → Q vs H') → t σ H Q
def AL (Z : Zc) (es : List Expr) (m : En → Option (List Ls × En)) : Prop := ∃ t, (∀ X, InF Z X → PA X es t) ∧ SB Z t m
def bNil : En → Option (List Ls × En) := fun env => some ([], env)
def bCons (a : ML) (r : En → Option (List Ls × En)) : En → Option (List Ls × En) := fun env => (a env).bind fun p => (r p.2).map fun q => (p.1 :: q.1, q.2)
theorem al_nil : AL Z [] bNil := ⟨tNil, fun _ _ => pa_nil, fun g env σ I H Q ds env' R hm k => by cases hm; exact k [] I H R (Same.refl _) .nil⟩
theorem al_cons {e : Expr} {es : List Expr} {m : ML} {r : En → Option (List Ls × En)} (h : LV Z e m) (hr : AL Z es r) (hs : ∀ env, starEach (e :: es) env = (false, eval e env) :: starEach es env := by intro _; rfl) : AL Z (e :: es) (bCons m r) := by
  obtain ⟨t, h1, h2⟩ := h
  obtain ⟨u, r1, r2⟩ := hr
  refine ⟨_, fun X i => pa_cons (h1 X i) (r1 X i) (hs _), fun g env σ I H Q ds env' R hm k => ?_⟩
  unfold bCons at hm
  cases e1 : m env with
  | none => rw [e1] at hm; cases hm
  | some p =>
    rw [e1] at hm
    simp only [Option.bind_some] at hm
    cases e2 : r p.2 with
    | none => rw [e2] at hm; cases hm
    | some q =>
      rw [e2] at hm; cases hm
      refine h2 g env σ I H _ p.1 p.2 R e1 fun v I1 H1 R1 s1 rv => ?_
      exact r2 g p.2 σ I1 H1 _ q.1 q.2 R1 e2 fun vs I2 H2 R2 s2 rs => k (v :: vs) I2 H2 R2 (s1.trans s2) (.cons (rv.mono s2) rs)
def RuleC (Z : Zc) (r : List V → Hp → VK → Prop) (f : List D → Option D) : Prop := ∀ (I H : Hp) (xs : List D) (z : D) (vs : List V) (Q : VK), Same I H → Rbs Z I H xs vs → f xs = some z → (∀ vz, Rep Z.K Z.cl I z vz → Q vz H) → r vs H Q
def RuleCN (Z : Zc) (r : List V → Hp → VK → Prop) (f : List D → Option D) : Prop := ∀ (I H : Hp) (xs : List D) (z : D) (vs : List V) (Q : VK), Same I H → Rbs Z I H xs vs → f xs = some z →
  (∀ p o, H p = none → ObjRep Z.K Z.cl I z o → Q (.ref p) (upd H p o)) → r vs H Q
def mBi (f : List D → Option D) (a : En → Option (List Ls × En)) : ME := fun env => (a env).bind fun p => (lsGet p.1 p.2).bind fun ds => (f ds).map fun z => (z, p.2)
theorem mBi_inv {f : List D → Option D} {a : En → Option (List Ls × En)} {env env' : En} {z : D} (h : mBi f a env = some (z, env')) : ∃ ls ds, a env = some (ls, env') ∧ lsGet ls env' = some ds ∧ f ds = some z := by
  unfold mBi at h
  cases e1 : a env with
  | none => rw [e1] at h; cases h
  | some p =>
    rw [e1] at h
    simp only [Option.bind_some] at h
    cases e2 : lsGet p.1 p.2 with
    | none => rw [e2] at h; cases h
    | some ds =>
      rw [e2] at h
      simp only [Option.bind_some] at h
      cases e3 : f ds with
      | none => rw [e3] at h; cases h
      | some w => rw [e3] at h; cases h; exact ⟨_, _, rfl, e2, e3⟩
theorem bi_se {r : List V → Hp → VK → Prop} {f : List D → Option D} {t : TA} {m : En → Option (List Ls × En)} (hr : RuleC Z r f) (h : SB Z t m) : SE Z (tCB r t) (mBi f m) := by
  intro g env σ I H Q d env' R hm k
  obtain ⟨ls, ds, h1, h2, h3⟩ := mBi_inv hm
  exact h g env σ I H _ ls env' R h1 fun vs I1 H1 R1 s1 os => hr I1 H1 ds d vs Q R1.sub (lsGet_rbs R1 os h2) h3 fun vz rz => k vz I1 H1 R1 s1 rz
theorem bi_sf {r : List V → Hp → VK → Prop} {f : List D → Option D} {t : TA} {m : En → Option (List Ls × En)} (hr : RuleCN Z r f) (h : SB Z t m) : SF Z (tCB r t) (mBi f m) := by
  intro g env σ I H Q d env' R hm k
  obtain ⟨ls, ds, h1, h2, h3⟩ := mBi_inv hm
  exact h g env σ I H _ ls env' R h1 fun vs I1 H1 R1 s1 os => hr I1 H1 ds d vs Q R1.sub (lsGet_rbs R1 os h2) h3 fun p o hp ro => k p o I1 _ (R1.alloc hp o) s1 (R1.new hp) ro
theorem ev_callB {x : Str} {id : String} {r : List V → Hp → VK → Prop} {f : List D → Option D} {e : Expr} {es : List Expr} {m : En → Option (List Ls × En)} {p pos : Pos} (hc : ∀ X, InF Z X → CallR X (.builtin id) r) (hr : RuleC Z r f) (hg : GlZ Z x) (hm : Z.mg x = none)
    (hv : bootBuiltins x = some (.builtin id)) (ha : AL Z (e :: es) m) (hn : x ≠ "__name__" := by decide) (hdb : (x == ("__debug__" : Str)) = false := by decide)
    (he : ∀ env, starEach (e :: es) env = (false, eval e env) :: starEach es env := by intro _; rfl) (hpl : ∀ env, (backTo pos (starEach es env)).any (·.1) = false := by intro _; rfl) : EV Z (.Call (.Name x p) (e :: es) [] pos) (mBi f m) := by
  obtain ⟨t, h1, h2⟩ := ha
  exact ⟨_, fun X h => pe_callB (hc X h) (glOf h hg) (by rw [h.mg]; exact hm) hv (h1 X h) hn hdb (he _) (hpl _), bi_se hr h2⟩
theorem ef_callB {x : Str} {id : String} {r : List V → Hp → VK → Prop} {f : List D → Option D} {e : Expr} {es : List Expr} {m : En → Option (List Ls × En)} {p pos : Pos} (hc : ∀ X, InF Z X → CallR X (.builtin id) r) (hr : RuleCN Z r f) (hg : GlZ Z x) (hm : Z.mg x = none)
    (hv : bootBuiltins x = some (.builtin id)) (ha : AL Z (e :: es) m) (hn : x ≠ "__name__" := by decide) (hdb : (x == ("__debug__" : Str)) = false := by decide)
    (he : ∀ env, starEach (e :: es) env = (false, eval e env) :: starEach es env := by intro _; rfl) (hpl : ∀ env, (backTo pos (starEach es env)).any (·.1) = false := by intro _; rfl) : EF Z (.Call (.Name x p) (e :: es) [] pos) (mBi f m) := by
  obtain ⟨t, h1, h2⟩ := ha
  exact ⟨_, fun X h => pe_callB (hc X h) (glOf h hg) (by rw [h.mg]; exact hm) hv (h1 X h) hn hdb (he _) (hpl _), bi_sf hr h2⟩
theorem ev_callT {x : Str} {T : String} {r : List V → Hp → VK → Prop} {f : List D → Option D} {e : Expr} {es : List Expr} {m : En → Option (List Ls × En)} {p pos : Pos} (hc : ∀ X, InF Z X → CallR X (.type T) r) (hr : RuleC Z r f) (hg : GlZ Z x) (hm : Z.mg x = none)
    (hv : bootBuiltins x = some (.type T)) (ha : AL Z (e :: es) m) (hn : x ≠ "__name__" := by decide) (hdb : (x == ("__debug__" : Str)) = false := by decide)
    (he : ∀ env, starEach (e :: es) env = (false, eval e env) :: starEach es env := by intro _; rfl) (hpl : ∀ env, (backTo pos (starEach es env)).any (·.1) = false := by intro _; rfl) : EV Z (.Call (.Name x p) (e :: es) [] pos) (mBi f m) := by
  obtain ⟨t, h1, h2⟩ := ha
  exact ⟨_, fun X h => pe_callTy (hc X h) (glOf h hg) (by rw [h.mg]; exact hm) hv (h1 X h) hn hdb (he _) (hpl _), bi_se hr h2⟩
theorem ef_callT {x : Str} {T : String} {r : List V → Hp → VK → Prop} {f : List D → Option D} {e : Expr} {es : List Expr} {m : En → Option (List Ls × En)} {p pos : Pos} (hc : ∀ X, InF Z X → CallR X (.type T) r) (hr : RuleCN Z r f) (hg : GlZ Z x) (hm : Z.mg x = none)
    (hv : bootBuiltins x = some (.type T)) (ha : AL Z (e :: es) m) (hn : x ≠ "__name__" := by decide) (hdb : (x == ("__debug__" : Str)) = false := by decide)
    (he : ∀ env, starEach (e :: es) env = (false, eval e env) :: starEach es env := by intro _; rfl) (hpl : ∀ env, (backTo pos (starEach es env)).any (·.1) = false := by intro _; rfl) : EF Z (.Call (.Name x p) (e :: es) [] pos) (mBi f m) := by
  obtain ⟨t, h1, h2⟩ := ha
  exact ⟨_, fun X h => pe_callTy (hc X h) (glOf h hg) (by rw [h.mg]; exact hm) hv (h1 X h) hn hdb (he _) (hpl _), bi_sf hr h2⟩
/-! len -/
def dLen : List D → Option D
  | [.str y] => if y.length ≤ sizeLine then some (.int y.length) else none
  | [.lst xs] => some (.int xs.length)
  | [.scr xs] => some (.int xs.length)
  | [.tup xs] => some (.int xs.length)
  | [.dic ks _] => some (.int ks.length)
  | _ => none
theorem Rbs.one {I H : Hp} {d : D} {vs : List V} (h : Rbs Z I H [d] vs) : ∃ v, vs = [v] ∧ Rb Z I H d v := by
  cases h with
  | cons a b => cases b; exact ⟨_, rfl, a⟩
theorem Rbs.two {I H : Hp} {d e : D} {vs : List V} (h : Rbs Z I H [d, e] vs) : ∃ v u, vs = [v, u] ∧ Rb Z I H d v ∧ Rb Z I H e u := by
  cases h with
  | cons a b => cases b with | cons c d => cases d; exact ⟨_, _, rfl, a, c⟩
def rLenE (K : PySem.W.Frag) : List V → Hp → VK → Prop := fun xs H Q => (∃ x n, xs = [x] ∧ LenV K x H n ∧ Q (.int n) H) ∨ ∃ (a : Addr) (kvs : List (Key × V)), xs = [.ref a] ∧ Rd H a (.dK kvs) ∧ Q (.int kvs.length) H
theorem cr_len {X : Cx} (h : InF Z X) : CallR X (.builtin "len") (rLenE Z.K) := by
  rw [← h.K]
  intro pins s σ H xs us Q I r h
  rcases h with h | ⟨a, kvs, rfl, e, q⟩
  · exact call_len pins s σ H xs us Q I r h
  · obtain ⟨u, rfl, rx⟩ := vals1 r
    cases (show u = Value.ref a from rx)
    exact d_len I e fun t s' I' => ⟨.int kvs.length, H, I', ⟨t, rfl⟩, q⟩
theorem ok_len : RuleC Z (rLenE Z.K) dLen := by
  intro I H xs z vs Q s rs h k
  unfold dLen at h
  split at h
  · split at h
    · rename_i hl
      cases h
      obtain ⟨v, rfl, r⟩ := rs.one
      cases r.str
      exact .inl ⟨_, _, rfl, ⟨hl, rfl⟩, k _ .int⟩
    · cases h
  · cases h
    obtain ⟨v, rfl, r⟩ := rs.one
    obtain ⟨a, us, rfl, h1, h2⟩ := r.lst s
    exact .inl ⟨_, _, rfl, .inl ⟨us, SqL.of h1, rfl⟩, by rw [← h2.length]; exact k _ .int⟩
  · cases h
    obtain ⟨v, rfl, r⟩ := rs.one
    obtain ⟨a, us, rfl, h1, h2⟩ := r.scr s
    exact .inl ⟨_, _, rfl, .inl ⟨us, h1, rfl⟩, by rw [← h2.length]; exact k _ .int⟩
  · cases h
    obtain ⟨v, rfl, r⟩ := rs.one
    obtain ⟨a, us, rfl, h1, h2⟩ := r.tup s
    exact .inl ⟨_, _, rfl, .inr ⟨us, h1, rfl⟩, by rw [← h2.length]; exact k _ .int⟩
  · cases h
    obtain ⟨v, rfl, r⟩ := rs.one
    obtain ⟨a, us, rfl, h1, h2, h3⟩ := r.dic s
    refine .inr ⟨a, _, rfl, h1, ?_⟩
    rw [List.length_zip, ← h2.length, ← h3, Nat.min_self]
    exact k _ .int
  · cases h
/-! int(n), abs(n), min(xs), list(xs), isinstance -/
def dInt : List D → Option D
  | [.int i] => some (.int i)
  | [.bl b] => some (.int (if b then 1 else 0))
  | _ => none
def rIntE : List V → Hp → VK → Prop := fun xs H Q => (∃ i, xs = [.int i] ∧ Q (.int i) H) ∨ ∃ k, xs = [.bl k] ∧ Q (.int (if k then 1 else 0)) H
theorem ok_int : RuleC Z rIntE dInt := by
  intro I H xs z vs Q s rs h k
  unfold dInt at h
  split at h
  · cases h; obtain ⟨v, rfl, r⟩ := rs.one; cases r.int; exact .inl ⟨_, rfl, k _ .int⟩
  · cases h; obtain ⟨v, rfl, r⟩ := rs.one; cases r.bl; exact .inr ⟨_, rfl, k _ .int⟩
  · cases h
theorem cr_int {X : Cx} : CallR X (.type "int") rIntE := call_int1
def dAbs : List D → Option D
  | [.int i] => some (.int (if i < 0 then -i else i))
  | _ => none
def rAbsE : List V → Hp → VK → Prop := fun xs H Q => ∃ i, xs = [.int i] ∧ Q (.int (if i < 0 then -i else i)) H
theorem cr_abs {X : Cx} : CallR X (.builtin "abs") rAbsE := call_abs
theorem ok_abs : RuleC Z rAbsE dAbs := by
  intro I H xs z vs Q s rs h k
  unfold dAbs at h
  split at h
  · cases h; obtain ⟨v, rfl, r⟩ := rs.one; cases r.int; exact ⟨_, rfl, k _ .int⟩
  · cases h
def intsD : List D → Option (List Int)
  | [] => some []
  | .int i :: ds => (intsD ds).map fun ns => i :: ns
  | _ => none
theorem ints_rep {K : PySem.W.Frag} {cl : String → Option Addr} {I : Hp} : ∀ {ds : List D} {ns : List Int} {us : List V}, intsD ds = some ns → Reps K cl I ds us → us = ns.map V.int
  | [], ns, us, h, r => by cases h; cases r; rfl
  | d :: ds, ns, us, h, r => by
    cases d <;> simp only [intsD] at h <;> first | cases h | skip
    cases e : intsD ds with
    | none => rw [e] at h; cases h
    | some ms =>
      rw [e] at h; cases h
      cases r with
      | cons r1 r2 => rw [ints_rep e r2, r1.int_inv]; rfl
def leastI : List Int → Option Int
  | [] => none
  | n :: ns => some (ns.foldl min n)
theorem foldl_min_mem : ∀ (ns : List Int) (n : Int), ns.foldl min n ∈ n :: ns
  | [], n => by simp
  | m :: ns, n => by
    have := foldl_min_mem ns (min n m)
    rw [List.foldl_cons]
    rcases List.mem_cons.mp this with h | h
    · rw [h]
      by_cases e : n ≤ m
      · simp [Int.min_def, e]
      · simp [Int.min_def, e]
    · simp [h]
theorem foldl_min_le : ∀ (ns : List Int) (n : Int), ns.foldl min n ≤ n ∧ ∀ y ∈ ns, ns.foldl min n ≤ y
  | [], n => by simp
  | m :: ns, n => by
    obtain ⟨h1, h2⟩ := foldl_min_le ns (min n m)
    rw [List.foldl_cons]
    refine ⟨by omega, fun y hy => ?_⟩
    rcases List.mem_cons.mp hy with h | h
    · subst h; omega
    · exact h2 y h
def dMin : List D → Option D
  | [.lst ds] => (intsD ds).bind fun ns => (leastI ns).map .int
  | _ => none
def rMinE (K : PySem.W.Frag) : List V → Hp → VK → Prop := fun vs H Q => ∃ (a : Addr) (ns : List Int), vs = [V.ref a] ∧ SqL K H a (ns.map V.int) ∧ 0 < ns.length ∧ ∀ m, m ∈ ns → (∀ y, y ∈ ns → m ≤ y) → Q (.int m) H
theorem cr_minE {X : Cx} (h : InF Z X) : CallR X (.builtin "min") (rMinE Z.K) := by rw [← h.K]; exact cr_min h.calm
theorem ok_min : RuleC Z (rMinE Z.K) dMin := by
  intro I H xs z vs Q s rs h k
  unfold dMin at h
  split at h
  · rename_i ds
    cases e2 : intsD ds with
    | none => rw [e2] at h; cases h
    | some ns =>
      rw [e2] at h
      simp only [Option.bind_some] at h
      cases ns with
      | nil => cases h
      | cons n ns =>
        cases h
        obtain ⟨v, rfl, r⟩ := rs.one
        have hm := foldl_min_le ns n
        have hmem := foldl_min_mem ns n
        obtain ⟨a, us, rfl, h1, h2⟩ := r.lst s
        have e3 := ints_rep e2 h2
        subst e3
        refine ⟨a, n :: ns, rfl, SqL.of h1, by simp, fun m h1 h2 => ?_⟩
        have e : m = ns.foldl min n := by
          have q1 := h2 _ hmem
          rcases List.mem_cons.mp h1 with h3 | h3
          · subst h3; have := hm.1; omega
          · have := hm.2 m h3; omega
        rw [e]; exact k _ .int
  · cases h
def dList : List D → Option D
  | [x] => x.items?.map .lst
  | _ => none
def rListE (K : PySem.W.Frag) : List V → Hp → VK → Prop := fun xs H Q => ∃ p ys, xs = [.ref p] ∧ (SqL K H p ys ∨ SqT K H p ys) ∧ ∀ l, H l = none → Q (.ref l) (upd H l (.lst ys))
theorem cr_list {X : Cx} (h : InF Z X) : CallR X (.type "list") (rListE Z.K) := by rw [← h.K]; exact call_list_of
theorem ok_list : RuleCN Z (rListE Z.K) dList := by
  intro I H xs z vs Q s rs h k
  unfold dList at h
  split at h
  · rename_i x
    cases e1 : x.items? with
    | none => rw [e1] at h; cases h
    | some ds =>
      rw [e1] at h; cases h
      obtain ⟨v, rfl, r⟩ := rs.one
      obtain ⟨a, us, rfl, h1, h2⟩ := r.items s e1
      exact ⟨a, us, rfl, h1, fun l hl => k l _ hl (.lst h2)⟩
  · cases h
def D.ty : D → Option String
  | .non => some "NoneType"
  | .bl _ => some "bool"
  | .int _ => some "int"
  | .str _ => some "str"
  | .lst _ => some "list"
  | .tup _ => some "tuple"
  | .dic _ _ => some "dict"
  | _ => none
def dIsi : List D → Option D
  | [x, .typ n] => x.ty.bind fun a => (kitB a n).map .bl
  | _ => none
theorem ty_of {I H : Hp} (s : Same I H) {d : D} {a : String} {v : V} (h : d.ty = some a) (r : Rb Z I H d v) : TyX Z.K H v (.type a) := by
  cases d <;> simp only [D.ty] at h <;> first | cases h | skip
  · cases r.non; exact .base .non
  · cases r.bl; exact .base (.bl _)
  · cases r.int; exact .base (.int _)
  · cases r.str; exact .base (.str _)
  · obtain ⟨a, us, rfl, h1, _⟩ := r.lst s; exact .base (.lst h1)
  · obtain ⟨a, us, rfl, (h1 | ⟨o, h1⟩) | ⟨o, its, n, h1, h3, _⟩, _⟩ := r.tup s
    · exact .base (.tup h1)
    · exact .fTuple h1
    · exact .kTuple h1 h3
  · obtain ⟨a, us, rfl, h1 | ⟨o, h1⟩, _⟩ := r.dic s
    · exact .base (.dK h1)
    · exact .fDict h1
theorem cr_isi {X : Cx} (h : InF Z X) : CallR X (.builtin "isinstance") (rIsi Z.K) := by rw [← h.K]; exact call_isi
theorem ok_isi : RuleC Z (rIsi Z.K) dIsi := by
  intro I H xs z vs Q s rs h k
  unfold dIsi at h
  split at h
  · rename_i x n
    cases e1 : x.ty with
    | none => rw [e1] at h; cases h
    | some a =>
      rw [e1] at h
      simp only [Option.bind_some] at h
      cases e2 : kitB a n with
      | none => rw [e2] at h; cases h
      | some b =>
        rw [e2] at h; cases h
        obtain ⟨v, u, rfl, r1, r2⟩ := rs.two
        cases r2.typ
        exact ⟨v, _, _, _, b, rfl, .ty n, ty_of s e1 r1, kit_ty e2, k _ .bl⟩
  · cases h
end
end Q
namespace Q
open PySem L2
section
variable {Z : Zc}
/-! ### slices -/
def SO (Z : Zc) (t : TO) (m : En → Option (Option Int × En)) : Prop := ∀ (g : G) (env : En) (σ : St) (I H : Hp) (Q : Option Int → Hp → Prop) (o : Option Int) (env' : En), SR Z.K Z.cl g env σ I H → m env = some (o, env') →
  (∀ I' H', SR Z.K Z.cl g env' σ I' H' → Same I I' → Q o H') → t σ H Q
def OV (Z : Zc) (e : Option Expr) (m : En → Option (Option Int × En)) : Prop := ∃ t, (∀ X, InF Z X → PO X e t) ∧ SO Z t m
def oNone : En → Option (Option Int × En) := fun env => some (none, env)
def oSome (a : ME) : En → Option (Option Int × En) := fun env => (a env).bind fun p => match p.1 with
  | .int i => some (some i, p.2)
  | _ => none
theorem ov_none : OV Z none oNone := ⟨_, fun _ _ => po_none, fun g env σ I H Q o env' R hm k => by cases hm; exact k I H R (Same.refl _)⟩
theorem ov_some {e : Expr} {m : ME} (h : EV Z e m) : OV Z (some e) (oSome m) := by
  obtain ⟨t, h1, h2⟩ := h
  refine ⟨_, fun X i => po_some (h1 X i), fun g env σ I H Q o env' R hm k => ?_⟩
  unfold oSome at hm
  cases e1 : m env with
  | none => rw [e1] at hm; cases hm
  | some p =>
    obtain ⟨d, en⟩ := p
    rw [e1] at hm
    simp only [Option.bind_some] at hm
    cases d <;> first | cases hm | skip
    exact h2 g env σ I H _ _ _ R e1 fun v I1 H1 R1 s1 rv => ⟨_, rv.int_inv, k I1 H1 R1 s1⟩
def mSl (f : D → Option Int → Option Int → Option D) (a : ML) (lo hi : En → Option (Option Int × En)) : ME := fun env => (a env).bind fun p => (lo p.2).bind fun q => (hi q.2).bind fun r => (p.1.get r.2).bind fun x => (f x q.1 r.1).map fun z => (z, r.2)
theorem mSl_inv {f : D → Option Int → Option Int → Option D} {a : ML} {lo hi : En → Option (Option Int × En)} {env env' : En} {z : D} (h : mSl f a lo hi env = some (z, env')) :
    ∃ la e1 l e2 u x, a env = some (la, e1) ∧ lo e1 = some (l, e2) ∧ hi e2 = some (u, env') ∧ la.get env' = some x ∧ f x l u = some z := by
  unfold mSl at h
  cases h1 : a env with
  | none => rw [h1] at h; cases h
  | some p =>
    rw [h1] at h; simp only [Option.bind_some] at h
    cases h2 : lo p.2 with
    | none => rw [h2] at h; cases h
    | some q =>
      rw [h2] at h; simp only [Option.bind_some] at h
      cases h3 : hi q.2 with
      | none => rw [h3] at h; cases h
      | some r =>
        rw [h3] at h; simp only [Option.bind_some] at h
        cases h4 : p.1.get r.2 with
        | none => rw [h4] at h; cases h
        | some x =>
          rw [h4] at h; simp only [Option.bind_some] at h
          cases h5 : f x q.1 r.1 with
          | none => rw [h5] at h; cases h
          | some w => rw [h5] at h; cases h; exact ⟨_, _, _, _, _, _, rfl, h2, h3, h4, h5⟩
def dSlS : D → Option Int → Option Int → Option D
  | .str z, lo, hi => if z.length ≤ sizeLine then some (.str (cutS z lo hi)) else none
  | _, _, _ => none
theorem ev_slS {e : Expr} {lo hi : Option Expr} {m : ML} {ml mh : En → Option (Option Int × En)} {p2 pos : Pos} (h : LV Z e m) (hl : OV Z lo ml) (hh : OV Z hi mh) : EV Z (.Subscript e (.Slice lo hi none p2) pos) (mSl dSlS m ml mh) := by
  obtain ⟨t, h1, h2⟩ := h
  obtain ⟨tl, l1, l2⟩ := hl
  obtain ⟨tu, u1, u2⟩ := hh
  refine ⟨_, fun X i => pe_slice sl_str (h1 X i) (l1 X i) (u1 X i), fun g env σ I H Q d env' R hm k => ?_⟩
  obtain ⟨la, e1, l, e2, u, x, q1, q2, q3, q4, q5⟩ := mSl_inv hm
  refine h2 g env σ I H _ la e1 R q1 fun v I1 H1 R1 s1 o1 => l2 g e1 σ I1 H1 _ l e2 R1 q2 fun I2 H2 R2 s2 => u2 g e2 σ I2 H2 _ u env' R2 q3 fun I3 H3 R3 s3 => ?_
  have rb := Ls.rb R3 (o1.mono (s2.trans s3)) q4
  unfold dSlS at q5
  split at q5
  · split at q5
    · rename_i hz
      cases q5
      cases rb.str
      exact ⟨_, rfl, hz, k _ I3 H3 R3 ((s1.trans s2).trans s3) .str⟩
    · cases q5
  · cases q5
def cutD (xs : List D) (lo hi : Option Int) : List D := (xs.drop (HT.sIx xs.length 0 lo)).take (HT.sIx xs.length xs.length hi - HT.sIx xs.length 0 lo)
theorem Reps.drop {K : PySem.W.Frag} {cl : String → Option Addr} {I : Hp} : ∀ {xs : List D} {vs : List V} (n : Nat), Reps K cl I xs vs → Reps K cl I (xs.drop n) (vs.drop n)
  | _, _, 0, r => r
  | _, _, n + 1, .nil => .nil
  | _, _, n + 1, .cons _ t => Reps.drop n t
theorem Reps.take {K : PySem.W.Frag} {cl : String → Option Addr} {I : Hp} : ∀ {xs : List D} {vs : List V} (n : Nat), Reps K cl I xs vs → Reps K cl I (xs.take n) (vs.take n)
  | _, _, 0, _ => .nil
  | _, _, n + 1, .nil => .nil
  | _, _, n + 1, .cons r t => .cons r (Reps.take n t)
theorem Reps.cut {K : PySem.W.Frag} {cl : String → Option Addr} {I : Hp} {xs : List D} {vs : List V} {lo hi : Option Int} (r : Reps K cl I xs vs) : Reps K cl I (cutD xs lo hi) (cutV vs lo hi) := by
  unfold cutD cutV
  rw [← r.length]
  exact (r.drop _).take _
def dSlL : D → Option Int → Option Int → Option D
  | .lst xs, lo, hi => some (.lst (cutD xs lo hi))
  | .scr xs, lo, hi => some (.lst (cutD xs lo hi))
  | _, _, _ => none
theorem ef_slL {e : Expr} {lo hi : Option Expr} {m : ML} {ml mh : En → Option (Option Int × En)} {p2 pos : Pos} (h : LV Z e m) (hl : OV Z lo ml) (hh : OV Z hi mh) : EF Z (.Subscript e (.Slice lo hi none p2) pos) (mSl dSlL m ml mh) := by
  obtain ⟨t, h1, h2⟩ := h
  obtain ⟨tl, l1, l2⟩ := hl
  obtain ⟨tu, u1, u2⟩ := hh
  refine ⟨tSl (rSlL Z.K) t tl tu, fun X i => by have q := pe_slice (X := X) sl_list (h1 X i) (l1 X i) (u1 X i) (pos := pos) (p2 := p2); rw [i.K] at q; exact q, fun g env σ I H Q d env' R hm k => ?_⟩
  obtain ⟨la, e1, l, e2, u, x, q1, q2, q3, q4, q5⟩ := mSl_inv hm
  refine h2 g env σ I H _ la e1 R q1 fun v I1 H1 R1 s1 o1 => l2 g e1 σ I1 H1 _ l e2 R1 q2 fun I2 H2 R2 s2 => u2 g e2 σ I2 H2 _ u env' R2 q3 fun I3 H3 R3 s3 => ?_
  have rb := Ls.rb R3 (o1.mono (s2.trans s3)) q4
  unfold dSlL at q5
  split at q5
  · cases q5
    obtain ⟨a, vs, rfl, ha, ra⟩ := rb.lst R3.sub
    exact ⟨a, vs, rfl, SqL.of ha, fun p hp => k p _ I3 _ (R3.alloc hp _) ((s1.trans s2).trans s3) (R3.new hp) (.lst ra.cut)⟩
  · cases q5
    obtain ⟨a, vs, rfl, ha, ra⟩ := rb.scr R3.sub
    exact ⟨a, vs, rfl, ha, fun p hp => k p _ I3 _ (R3.alloc hp _) ((s1.trans s2).trans s3) (R3.new hp) (.lst ra.cut)⟩
  · cases q5
/-! ### o.f -/
def lookF (ks : List Str) (xs : List D) (f : Str) : Option D := (ks.zip xs).lookup f
theorem lookF_rep {K : PySem.W.Frag} {cl : String → Option Addr} {I : Hp} {f : Str} : ∀ {ks : List Str} {xs : List D} {vs : List V} {d : D}, Reps K cl I xs vs → lookF ks xs f = some d → ∃ v, (ks.zip vs).lookup f = some v ∧ Rep K cl I d v
  | [], xs, vs, d, r, h => by unfold lookF at h; simp at h
  | q :: ks, [], [], d, .nil, h => by unfold lookF at h; simp at h
  | q :: ks, e :: es, v :: vs, d, .cons r1 r2, h => by
    unfold lookF at h
    rw [List.zip_cons_cons, List.lookup_cons] at h ⊢
    cases e : f == q with
    | true => rw [e] at h; cases h; exact ⟨v, rfl, r1⟩
    | false => rw [e] at h; exact lookF_rep r2 h
def dFld (c : String) (f : Str) : D → Option D
  | .obj c' ks xs => if c' = c then lookF ks xs f else none
  | _ => none
def mFld (c : String) (f : Str) (a : ML) : ME := fun env => (a env).bind fun p => (p.1.get p.2).bind fun x => (dFld c f x).map fun z => (z, p.2)
theorem ev_fld {c : String} {f : Str} {e : Expr} {m : ML} {pos : Pos} (h : LV Z e m) (hc : ∀ C, Z.cl c = some C → Cls Z.K C ∧ NoAttr Z.K C f) (hb : ∀ env, attributeBase e f env (eval e env) = eval e env := by intro _; rfl) : EV Z (.Attribute e f pos) (mFld c f m) := by
  obtain ⟨t, h1, h2⟩ := h
  refine ⟨tFld Z.K t f, fun X i => by have q := pe_fld (X := X) (h1 X i) (hb _) (pos := pos) (f := f); rw [i.K] at q; exact q, fun g env σ I H Q d env' R hm k => ?_⟩
  unfold mFld at hm
  cases q1 : m env with
  | none => rw [q1] at hm; cases hm
  | some p =>
    rw [q1] at hm; simp only [Option.bind_some] at hm
    cases q2 : p.1.get p.2 with
    | none => rw [q2] at hm; cases hm
    | some x =>
      rw [q2] at hm; simp only [Option.bind_some] at hm
      cases q3 : dFld c f x with
      | none => rw [q3] at hm; cases hm
      | some z =>
        rw [q3] at hm; cases hm
        refine h2 g env σ I H _ p.1 p.2 R q1 fun v I1 H1 R1 s1 o1 => ?_
        have rb := Ls.rb R1 o1 q2
        unfold dFld at q3
        split at q3
        · split at q3
          · rename_i hcc
            subst hcc
            obtain ⟨a, C, dx, vs, rfl, ha, hC, ra, hl⟩ := rb.ob R1.sub
            obtain ⟨u, hu, ru⟩ := lookF_rep ra q3
            exact ⟨a, C, dx, _, u, rfl, ha, (hc C hC).1, (hc C hC).2, hu, k u I1 H1 R1 s1 ru⟩
          · cases q3
        · cases q3
/-! ## statements -/
def mNext : MS := fun env => some (.nx env)
theorem bv_nil : BV Z [] mNext := ⟨_, fun _ _ => pss_nil, fun g env σ I H D fl R hm k => by cases hm; exact k σ I H R (Same.refl _)⟩
def mSeq (a b : MS) : MS := fun env => (a env).bind fun fl => match fl with
  | .nx e => b e
  | fl => some fl
theorem bv_cons {s : Stmt} {r : List Stmt} {a b : MS} (ha : SV Z s a) (hb : BV Z r b) : BV Z (s :: r) (mSeq a b) := by
  obtain ⟨t, h1, h2⟩ := ha
  obtain ⟨u, r1, r2⟩ := hb
  refine ⟨_, fun X i => pss_cons (h1 X i) (r1 X i), fun g env σ I H D fl R hm k => ?_⟩
  unfold mSeq at hm
  cases e1 : a env with
  | none => rw [e1] at hm; cases hm
  | some f1 =>
    rw [e1] at hm
    simp only [Option.bind_some] at hm
    refine h2 g env σ I H _ f1 R e1 ?_
    cases f1 with
    | nx e => exact fun σ' I' H' R' s' => r2 g e σ' I' H' D fl R' hm (k.mono s')
    | bk e => cases hm; exact k
    | ct e => cases hm; exact k
    | ret md d e => cases hm; exact k
theorem bv_one {s : Stmt} {a : MS} (ha : SV Z s a) : BV Z [s] a := by
  obtain ⟨t, h1, h2⟩ := ha
  exact ⟨t, fun X i => pss_one (h1 X i), h2⟩
theorem sv_pass {pos : Pos} : SV Z (.Pass pos) mNext := ⟨_, fun _ _ => ps_pass, fun g env σ I H D fl R hm k => by cases hm; exact k σ I H R (Same.refl _)⟩
theorem sv_doc {x j pos pos'} : SV Z (.Expr (.Constant (.str x) j pos) pos') mNext := ⟨_, fun _ _ => ps_doc, fun g env σ I H D fl R hm k => by cases hm; exact k σ I H R (Same.refl _)⟩
def mBrk : MS := fun env => some (.bk env)
def mCnt : MS := fun env => some (.ct env)
theorem sv_break {pos : Pos} : SV Z (.Break pos) mBrk := ⟨_, fun _ _ => ps_break, fun g env σ I H D fl R hm k => by cases hm; exact k σ I H R (Same.refl _)⟩
theorem sv_continue {pos : Pos} : SV Z (.Continue pos) mCnt := ⟨_, fun _ _ => ps_continue, fun g env σ I H D fl R hm k => by cases hm; exact k σ I H R (Same.refl _)⟩
/-- a statement that is never come to -/
def mNever : MS := fun _ => none
theorem sv_never {s : Stmt} : SV Z s mNever := ⟨_, fun _ _ => ps_never, fun g env σ I H D fl R hm k => by cases hm⟩
def mDrop (a : ME) : MS := fun env => (a env).map fun p => .nx p.2
theorem sv_expr {e : Expr} {m : ME} {pos : Pos} (h : EV Z e m) (hs : ∀ env, swapsWith e none pos.line env = pure false := by intro _; rfl) : SV Z (.Expr e pos) (mDrop m) := by
  obtain ⟨t, h1, h2⟩ := h
  refine ⟨_, fun X i => ps_expr (h1 X i) (hs _), fun g env σ I H D fl R hm k => ?_⟩
  unfold mDrop at hm
  cases e1 : m env with
  | none => rw [e1] at hm; cases hm
  | some p => rw [e1] at hm; cases hm; exact h2 g env σ I H _ p.1 p.2 R e1 fun v I1 H1 R1 s1 _ => k σ I1 H1 R1 s1
def mRet (a : ME) : MS := fun env => (a env).map fun p => .ret .imm p.1 p.2
theorem sv_ret {e : Expr} {m : ME} {pos : Pos} (h : EV Z e m) : SV Z (.Return (some e) pos) (mRet m) := by
  obtain ⟨t, h1, h2⟩ := h
  refine ⟨_, fun X i => ps_ret (h1 X i), fun g env σ I H D fl R hm k => ?_⟩
  unfold mRet at hm
  cases e1 : m env with
  | none => rw [e1] at hm; cases hm
  | some p => rw [e1] at hm; cases hm; exact h2 g env σ I H _ p.1 p.2 R e1 fun v I1 H1 R1 s1 rv => k σ I1 H1 v R1 s1 rv
def mRetF (a : ME) : MS := fun env => (a env).map fun p => .ret .new p.1 p.2
theorem sv_retF {e : Expr} {m : ME} {pos : Pos} (h : EF Z e m) : SV Z (.Return (some e) pos) (mRetF m) := by
  obtain ⟨t, h1, h2⟩ := h
  refine ⟨_, fun X i => ps_ret (h1 X i), fun g env σ I H D fl R hm k => ?_⟩
  unfold mRetF at hm
  cases e1 : m env with
  | none => rw [e1] at hm; cases hm
  | some p => rw [e1] at hm; cases hm; exact h2 g env σ I H _ p.1 p.2 R e1 fun q o I1 H1 R1 s1 n r => k σ I1 H1 _ R1 s1 ⟨q, o, rfl, n, r⟩
/-- return x, x an own object: handed out as new -/
def mRetO (i : Nat) : MS := fun env => match env[i]? with
  | some (.own d) => some (.ret .new d (env.set i .un))
  | some (.imm d) => some (.ret .imm d env)
  | _ => none
theorem sv_retO {i : Nat} {x : Str} {p pos : Pos} (hN : Z.N[i]? = some x) (hv : Vis Z.sc x) (hd : (x == ("__debug__" : Str)) = false := by decide) (hcd : (x == ("__classdict__" : Str)) = false := by decide) : SV Z (.Return (some (.Name x p)) pos) (mRetO i) := by
  refine ⟨tRet (tVar i), fun X h => ps_ret (pe_var (by rw [h.N]; exact hN) (visOf h hv) hd hcd), fun g env σ I H D fl R hm k => ?_⟩
  unfold mRetO at hm
  split at hm
  · rename_i d hs
    cases hm
    obtain ⟨y, hx, a, o, rfl, h1, h2, h3, h4⟩ := R.at_ i _ hs
    have R1 : SR Z.K Z.cl g (env.set i .un) σ I H := R.reslot (s' := .un) hs (fun _ _ _ => trivial) (fun z => by cases z) (fun z => by cases z)
    have n : New g (env.set i .un) σ I H a o := ⟨h1, h3, h4, fun j s hj ht => by
      rcases set_get hj with ⟨rfl, _, rfl⟩ | ⟨ne, hj⟩
      · cases ht
      · exact fun z => R.dis i j _ s a (Ne.symm ne) hs hj rfl ht hx z, fun o' hX => (R.ex a o' hX).2.2 i _ hs rfl hx⟩
    exact ⟨.ref a, hx, k σ I H _ R1 (Same.refl _) ⟨a, o, rfl, n, h2⟩⟩
  · rename_i d hs
    cases hm
    obtain ⟨y, hx, v, rfl, r⟩ := R.at_ i _ hs
    exact ⟨v, hx, k σ I H v R (Same.refl _) r⟩
  · cases hm
def mRetN : MS := fun env => some (.ret .imm .non env)
theorem sv_retN {pos : Pos} : SV Z (.Return none pos) mRetN := ⟨_, fun _ _ => ps_retN, fun g env σ I H D fl R hm k => by cases hm; exact k σ I H _ R (Same.refl _) .non⟩
def mIfS (c : MT) (a b : MS) : MS := fun env => (c env).bind fun p => if p.1 then a p.2 else b p.2
theorem sv_if {c : Expr} {a b : List Stmt} {mc : MT} {ma mb : MS} {pos : Pos} (hc : TV Z c mc) (ha : BV Z a ma) (hb : BV Z b mb) : SV Z (.If c a b pos) (mIfS mc ma mb) := by
  obtain ⟨tc, c1, c2⟩ := hc
  obtain ⟨ta, a1, a2⟩ := ha
  obtain ⟨tb, b1, b2⟩ := hb
  refine ⟨_, fun X h => ps_if (c1 X h) (a1 X h) (b1 X h), fun g env σ I H D fl R hm k => ?_⟩
  unfold mIfS at hm
  cases e : mc env with
  | none => rw [e] at hm; cases hm
  | some p =>
    obtain ⟨b, e1⟩ := p
    rw [e] at hm
    simp only [Option.bind_some] at hm
    refine c2 g env σ I H _ b e1 R e fun I1 H1 R1 s1 => ?_
    cases b with
    | true => exact a2 g e1 σ I1 H1 D fl R1 hm (k.mono s1)
    | false => exact b2 g e1 σ I1 H1 D fl R1 hm (k.mono s1)
/-! ### stores -/
def LocZ (Z : Zc) (x : Str) : Prop := (Z.all = true ∧ Loc Z.sc x) ∨ Z.sc.names.lookup x = some .local
theorem locOf {X : Cx} {x : Str} (h : InF Z X) (hv : LocZ Z x) : Loc X.env.scope x ∧ (X.fn x = true ∨ X.env.scope.names.lookup x = some .local) := by
  rw [h.sc]
  rcases hv with ⟨h1, h2⟩ | h1
  · exact ⟨h2, .inl (h.fn h1 x)⟩
  · exact ⟨.inl h1, .inr h1⟩
theorem lt_of_get {α : Type} {l : List α} {i : Nat} {x : α} (h : l[i]? = some x) : i < l.length := (List.getElem?_eq_some_iff.mp h).1
def mAsg (i : Nat) (a : ME) : MS := fun env => (a env).bind fun p => if i < p.2.length then some (.nx (p.2.set i (.imm p.1))) else none
def mAsgF (i : Nat) (a : ME) : MS := fun env => (a env).bind fun p => if i < p.2.length then some (.nx (p.2.set i (.own p.1))) else none
theorem sv_asg {i : Nat} {x : Str} {e : Expr} {m : ME} {p pos : Pos} (hN : Z.N[i]? = some x) (hv : LocZ Z x) (h : EV Z e m) (hs : ∀ env, swapsWithSole [.Name x p] e pos.line env = pure false := by intro _; rfl) (hw : ∀ env, swappedStores [.Name x p] e env = pure none := by intro _; rfl)
    (h1 : ∀ env, (assignEach [.Name x p] env).map (·.2) = [assign (.Name x p) env] := by intro _; rfl) : SV Z (.Assign [.Name x p] e pos) (mAsg i m) := by
  obtain ⟨t, q1, q2⟩ := h
  refine ⟨_, fun X k => ps_asg (q1 X k) (pg_name k.nd (by rw [k.N]; exact hN) (locOf k hv).1 (locOf k hv).2) (hs _) (hw _) (h1 _), fun g env σ I H D fl R hm k => ?_⟩
  unfold mAsg at hm
  cases e1 : m env with
  | none => rw [e1] at hm; cases hm
  | some r =>
    rw [e1] at hm
    simp only [Option.bind_some] at hm
    split at hm
    · rename_i hi
      cases hm
      exact q2 g env σ I H _ r.1 r.2 R e1 fun v I1 H1 R1 s1 rv => k _ I1 H1 (R1.setImm (by rw [← R1.len]; exact hi) rv) s1
    · cases hm
theorem sv_asgF {i : Nat} {x : Str} {e : Expr} {m : ME} {p pos : Pos} (hN : Z.N[i]? = some x) (hv : LocZ Z x) (h : EF Z e m) (hs : ∀ env, swapsWithSole [.Name x p] e pos.line env = pure false := by intro _; rfl) (hw : ∀ env, swappedStores [.Name x p] e env = pure none := by intro _; rfl)
    (h1 : ∀ env, (assignEach [.Name x p] env).map (·.2) = [assign (.Name x p) env] := by intro _; rfl) : SV Z (.Assign [.Name x p] e pos) (mAsgF i m) := by
  obtain ⟨t, q1, q2⟩ := h
  refine ⟨_, fun X k => ps_asg (q1 X k) (pg_name k.nd (by rw [k.N]; exact hN) (locOf k hv).1 (locOf k hv).2) (hs _) (hw _) (h1 _), fun g env σ I H D fl R hm k => ?_⟩
  unfold mAsgF at hm
  cases e1 : m env with
  | none => rw [e1] at hm; cases hm
  | some r =>
    rw [e1] at hm
    simp only [Option.bind_some] at hm
    split at hm
    · rename_i hi
      cases hm
      exact q2 g env σ I H _ r.1 r.2 R e1 fun a o I1 H1 R1 s1 n ro => k _ I1 H1 (R1.setOwn (by rw [← R1.len]; exact hi) n ro) s1
    · cases hm
/-- x += e (numbers) -/
def mAug (f : Int → Int → Int) (i : Nat) (a : ME) : MS := fun env => match env[i]? with
  | some (.imm (.int x)) => (a env).bind fun p => match p.1 with
    | .int y => if i < p.2.length then some (.nx (p.2.set i (.imm (.int (f x y))))) else none
    | _ => none
  | _ => none
theorem sv_aug {i : Nat} {x : Str} {e : Expr} {m : ME} {op : Operator} {f : Int → Int → Int} {p pos : Pos} (ho : ∀ X, InF Z X → PIp X op (ipI f)) (hN : Z.N[i]? = some x) (hv : LocZ Z x) (h : EV Z e m) : SV Z (.AugAssign (.Name x p) op e pos) (mAug f i m) := by
  obtain ⟨t, q1, q2⟩ := h
  refine ⟨_, fun X k => ps_aug k.nd (by rw [k.N]; exact hN) (locOf k hv).1 (q1 X k) (ho X k) (locOf k hv).2, fun g env σ I H D fl R hm k => ?_⟩
  unfold mAug at hm
  split at hm
  · rename_i z hs
    obtain ⟨y, hy, v, rfl, rv⟩ := R.at_ i _ hs
    cases rv.int_inv
    cases e1 : m env with
    | none => rw [e1] at hm; cases hm
    | some r =>
      obtain ⟨d, en⟩ := r
      rw [e1] at hm
      simp only [Option.bind_some] at hm
      cases d <;> first | cases hm | skip
      dsimp only at hm
      split at hm
      · rename_i hi
        cases hm
        refine ⟨_, hy, q2 g env σ I H _ _ _ R e1 fun w I1 H1 R1 s1 rw' => ⟨_, _, rfl, rw'.int_inv, k _ I1 H1 (R1.setImm (by rw [← R1.len]; exact hi) .int) s1⟩⟩
      · cases hm
  · cases hm
/-- xs.append(e), xs an own list -/
def ownL (env : En) (i : Nat) : Option (List D) := (env[i]?).bind fun s => (s.own?).bind fun d => match d with
  | .lst xs => some xs
  | _ => none
theorem ownL_inv {env : En} {i : Nat} {xs : List D} (h : ownL env i = some xs) : ∃ s, env[i]? = some s ∧ s.own? = some (.lst xs) := by
  unfold ownL at h
  cases e2 : env[i]? with
  | none => rw [e2] at h; cases h
  | some s =>
    rw [e2] at h; simp only [Option.bind_some] at h
    cases e3 : s.own? with
    | none => rw [e3] at h; cases h
    | some d =>
      rw [e3] at h; simp only [Option.bind_some] at h
      cases d <;> first | (cases h; exact ⟨s, rfl, e3⟩) | cases h
theorem own_list {g : G} {env : En} {σ : St} {I H : Hp} {i : Nat} {xs : List D} (R : SR Z.K Z.cl g env σ I H) (h : ownL env i = some xs) :
    ∃ s a vs, env[i]? = some s ∧ s.own? = some (.lst xs) ∧ σ[i]? = some (some (.ref a)) ∧ H a = some (.lst vs) ∧ Reps Z.K Z.cl I xs vs := by
  obtain ⟨s, h1, h2⟩ := ownL_inv h
  obtain ⟨a, o, h3, h4, h5, h6⟩ := own_at R h1 h2
  obtain ⟨vs, rfl, r⟩ := h5.lst_inv
  exact ⟨s, a, vs, h1, h2, h3, h4, r⟩
def putS (env : En) (i : Nat) (d : D) : En := match env[i]? with
  | some s => env.set i (s.put d)
  | none => env
def mApp (i : Nat) (a : ME) : MS := fun env => (ownL env i).bind fun _ => (a env).bind fun p => (ownL p.2 i).bind fun xs =>
  if xs.length < sizeLine then some (.nx (putS p.2 i (.lst (xs ++ [p.1])))) else none
theorem rd_at {g : G} {env : En} {σ : St} {I H : Hp} {i : Nat} {d : D} (R : SR Z.K Z.cl g env σ I H) (h : env[i]?.bind Sl.rd = some d) : ∃ v, σ[i]? = some (some v) := by
  cases e : env[i]? with
  | none => rw [e] at h; cases h
  | some s =>
    rw [e] at h
    obtain ⟨x, hx, q⟩ := R.at_ i _ e
    cases s with
    | un => cases h
    | imm d => obtain ⟨v, rfl, _⟩ := q; exact ⟨_, hx⟩
    | bor d => obtain ⟨v, rfl, _⟩ := q; exact ⟨_, hx⟩
    | own d => obtain ⟨v, o, rfl, _⟩ := q; exact ⟨_, hx⟩
    | lck d => obtain ⟨v, o, rfl, _⟩ := q; exact ⟨_, hx⟩
    | io j d => obtain ⟨v, o, rfl, _⟩ := q; exact ⟨_, hx⟩
theorem sv_append {i : Nat} {x : Str} {e : Expr} {m : ME} {p p1 cpos pos : Pos} (hN : Z.N[i]? = some x) (hv : Vis Z.sc x) (h : EV Z e m) (hd : (x == ("__debug__" : Str)) = false := by decide) (hcd : (x == ("__classdict__" : Str)) = false := by decide)
    (hbase : ∀ env, attributeBase (.Name x p) "append" env (eval (.Name x p) env) = eval (.Name x p) env := by intro _; rfl)
    (hfew : ∀ env, ((backTo cpos (starEach [e] env)).all (fun x => !x.1) && (backToKw cpos (keywordEach [] env)).all (fun x => x.1.isSome)
      && decide (([e] : List Expr).length + ([] : List Keyword).length + (if ([] : List Keyword).isEmpty then 0 else 1) < 30)) = true := by intro _; rfl)
    (hline : (p1.endLine == cpos.line) = true := by rfl) (hs : ∀ env, starEach [e] env = (false, eval e env) :: starEach [] env := by intro _; rfl) (hplain : ∀ env, (backTo cpos (starEach [] env)).any (·.1) = false := by intro _; rfl)
    (hsw : ∀ env, swapsWith (.Call (.Attribute (.Name x p) "append" p1) [e] [] cpos) none pos.line env = pure false := by intro _; rfl) :
    SV Z (.Expr (.Call (.Attribute (.Name x p) "append" p1) [e] [] cpos) pos) (mApp i m) := by
  obtain ⟨t, q1, q2⟩ := h
  refine ⟨tDrop (tBM Z.K "list" rAppend (tVar i) (tCons t tNil)), fun X k => ?_, fun g env σ I H D fl R hm k => ?_⟩
  · have q := pe_bm (X := X) (name := "append") (apos := p1) (cpos := cpos) PySem.F.plainAttrs_list PySem.F.slot_list_append PySem.F.type_list_append mt_append (pe_var (by rw [k.N]; exact hN) (visOf k hv) hd hcd) (pa_cons (q1 X k) pa_nil (hs _)) (hbase _) (hfew _) hline (hs _) (hplain _)
    rw [k.K] at q
    exact ps_expr q (hsw _)
  · unfold mApp at hm
    cases e0 : ownL env i with
    | none => rw [e0] at hm; cases hm
    | some d0 =>
      rw [e0] at hm; simp only [Option.bind_some] at hm
      cases e1 : m env with
      | none => rw [e1] at hm; cases hm
      | some r =>
        obtain ⟨y, en⟩ := r
        rw [e1] at hm; simp only [Option.bind_some] at hm
        cases e2 : ownL en i with
        | none => rw [e2] at hm; cases hm
        | some xs =>
          rw [e2] at hm; simp only [Option.bind_some] at hm
          split at hm
          · rename_i hlen
            cases hm
            obtain ⟨s0, a0, vs0, h1, h2, h3, h4, _⟩ := own_list R e0
            refine ⟨.ref a0, h3, .inl ⟨rfl, _, SqL.of h4⟩, ?_⟩
            refine q2 g env σ I H _ y en R e1 fun v I1 H1 R1 s1 rv => ?_
            obtain ⟨s, a, vs, h5, h6, h7, h8, h9⟩ := own_list R1 e2
            rw [h3] at h7
            cases h7
            refine ⟨a0, vs, v, rfl, rfl, h8, by rw [← h9.length]; exact hlen, ?_⟩
            have R2 := R1.mutate h5 h6 h3 (.lst (h9.append (.cons rv .nil)))
            have e5 : putS en i (.lst (xs ++ [y])) = en.set i (s.put (.lst (xs ++ [y]))) := by unfold putS; rw [h5]
            rw [e5] at k
            exact k σ I1 _ R2 s1
          · cases hm
/-- xs[j] = e, xs an own list -/
def mSetI (i : Nat) (e j : ME) : MS := fun env => (e env).bind fun p => (ownL p.2 i).bind fun _ => (j p.2).bind fun q => (ownL q.2 i).bind fun xs => match q.1 with
  | .int n => (ixN xs.length n).map fun c => .nx (putS q.2 i (.lst (xs.set c p.1)))
  | _ => none
theorem sv_setI {i : Nat} {x : Str} {e j : Expr} {me mj : ME} {p p1 pos : Pos} (hN : Z.N[i]? = some x) (hv : Vis Z.sc x) (he : EV Z e me) (hj : EV Z j mj) (hd : (x == ("__debug__" : Str)) = false := by decide) (hcd : (x == ("__classdict__" : Str)) = false := by decide)
    (hs : ∀ env, swapsWithSole [.Subscript (.Name x p) j p1] e pos.line env = pure false := by intro _; rfl) (hw : ∀ env, swappedStores [.Subscript (.Name x p) j p1] e env = pure none := by intro _; rfl)
    (h1 : ∀ env, (assignEach [.Subscript (.Name x p) j p1] env).map (·.2) = [assign (.Subscript (.Name x p) j p1) env] := by intro _; rfl)
    (ha : ∀ env v, assign (.Subscript (.Name x p) j p1) env v = (do
      let ov ← holding [v] (eval (.Name x p) env)
      let iv ← holding [v, ov] (eval j env)
      standAt p1
      holding [v, ov, iv] (setItem ov iv v)
      release [v, ov, iv] []) := by intro _ _; rfl) :
    SV Z (.Assign [.Subscript (.Name x p) j p1] e pos) (mSetI i me mj) := by
  obtain ⟨t, q1, q2⟩ := he
  obtain ⟨u, j1, j2⟩ := hj
  refine ⟨tAsg t (gSub (tVar i) u rSetL), fun X k => ps_asg (q1 X k) (pg_sub (pe_var (by rw [k.N]; exact hN) (visOf k hv) hd hcd) (j1 X k) set_list (ha _)) (hs _) (hw _) (h1 _), fun g env σ I H D fl R hm k => ?_⟩
  unfold mSetI at hm
  cases e1 : me env with
  | none => rw [e1] at hm; cases hm
  | some r =>
    obtain ⟨y, en⟩ := r
    rw [e1] at hm; simp only [Option.bind_some] at hm
    cases e2 : ownL en i with
    | none => rw [e2] at hm; cases hm
    | some xs0 =>
      rw [e2] at hm; simp only [Option.bind_some] at hm
      cases e3 : mj en with
      | none => rw [e3] at hm; cases hm
      | some r =>
        obtain ⟨n, en2⟩ := r
        rw [e3] at hm; simp only [Option.bind_some] at hm
        cases e4 : ownL en2 i with
        | none => rw [e4] at hm; cases hm
        | some xs =>
          rw [e4] at hm; simp only [Option.bind_some] at hm
          cases n <;> first | cases hm | skip
          rename_i n
          dsimp only at hm
          cases e5 : ixN xs.length n with
          | none => rw [e5] at hm; cases hm
          | some c =>
            rw [e5] at hm; cases hm
            refine q2 g env σ I H _ y en R e1 fun v I1 H1 R1 s1 rv => ?_
            obtain ⟨s0, a0, vs0, h1, h2, h3, h4, _⟩ := own_list R1 e2
            refine ⟨.ref a0, h3, ?_⟩
            refine j2 g en σ I1 H1 _ _ en2 R1 e3 fun w I2 H2 R2 s2 rw' => ?_
            obtain ⟨s, a, vs, h5, h6, h7, h8, h9⟩ := own_list R2 e4
            rw [h3] at h7
            cases h7
            refine ⟨a0, vs, n, c, rfl, rw'.int_inv, h8, by rw [← h9.length]; exact e5, ?_⟩
            have R3 := R2.mutate h5 h6 h3 (.lst (Reps.set c (rv.mono s2) h9))
            have e6 : putS en2 i (.lst (xs.set c y)) = en2.set i (s.put (.lst (xs.set c y))) := by unfold putS; rw [h5]
            dsimp only at k
            rw [e6] at k
            exact k σ I2 _ R3 (s1.trans s2)
end
end Q
namespace Q
open PySem L2
section
variable {Z : Zc}
/-! ### targets -/
theorem wipe_set {σ : St} {i : Nat} {x : Option V} : ∀ {vs : List Nat}, i ∈ vs → wipe (σ.set i x) vs = wipe σ vs
  | [], h => by cases h
  | v :: vs, h => by
    show (wipe (σ.set i x) vs).set v none = (wipe σ vs).set v none
    by_cases e : i ∈ vs
    · rw [wipe_set e]
    · have : i = v := by
        rcases List.mem_cons.mp h with h | h
        · exact h
        · exact absurd h e
      subst this
      have c : ∀ (ws : List Nat) (τ : St), i ∉ ws → wipe (τ.set i x) ws = (wipe τ ws).set i x := by
        intro ws
        induction ws with
        | nil => intro τ _; rfl
        | cons w ws ih =>
          intro τ hw
          have h1 : i ≠ w := fun z => hw (by rw [z]; exact List.mem_cons_self)
          have h2 : i ∉ ws := fun z => hw (List.mem_cons_of_mem _ z)
          show (wipe (τ.set i x) ws).set w none = ((wipe τ ws).set w none).set i x
          rw [ih τ h2, List.set_comm _ _ h1]
      rw [c vs σ e, List.set_set]
def GV (Z : Zc) (tg : Expr) (ix : List Nat) (f : D → En → Option En) : Prop := ∃ gt, (∀ X, InF Z X → PG X tg gt) ∧ ∀ (g : G) (env : En) (σ : St) (I H : Hp) (d : D) (v : V) (Q : St → Hp → Prop) (env' : En), SR Z.K Z.cl g env σ I H → Rep Z.K Z.cl I d v → f d env = some env' →
  (∀ σ', SR Z.K Z.cl g env' σ' I H → (∀ vs, (∀ i ∈ ix, i ∈ vs) → wipe σ' vs = wipe σ vs) → Q σ' H) → gt v σ H Q
def gN (i : Nat) : D → En → Option En := fun d env => if i < env.length then some (env.set i (.imm d)) else none
theorem gv_name {i : Nat} {x : Str} {p : Pos} (hN : Z.N[i]? = some x) (hv : LocZ Z x) : GV Z (.Name x p) [i] (gN i) := by
  refine ⟨gName i, fun X k => pg_name k.nd (by rw [k.N]; exact hN) (locOf k hv).1 (locOf k hv).2, fun g env σ I H d v Q env' R r h k => ?_⟩
  unfold gN at h
  split at h
  · rename_i hi
    cases h
    exact k _ (R.setImm (by rw [← R.len]; exact hi) r) fun vs hvs => wipe_set (hvs i (by simp))
  · cases h
def GVs (Z : Zc) (tgs : List Expr) (ix : List Nat) (f : List D → En → Option En) : Prop := ∃ gt, (∀ X, InF Z X → PGs X tgs gt) ∧ ∀ (g : G) (env : En) (σ : St) (I H : Hp) (ds : List D) (vs : List V) (Q : St → Hp → Prop) (env' : En), SR Z.K Z.cl g env σ I H → Reps Z.K Z.cl I ds vs → f ds env = some env' →
  (∀ σ', SR Z.K Z.cl g env' σ' I H → (∀ vs, (∀ i ∈ ix, i ∈ vs) → wipe σ' vs = wipe σ vs) → Q σ' H) → gt vs σ H Q
def gsNil : List D → En → Option En := fun ds env => match ds with
  | [] => some env
  | _ => none
def gsCons (f : D → En → Option En) (r : List D → En → Option En) : List D → En → Option En := fun ds env => match ds with
  | d :: ds => (f d env).bind fun e => r ds e
  | _ => none
theorem gvs_nil : GVs Z [] [] gsNil := by
  refine ⟨gNil, fun _ _ => pgs_nil, fun g env σ I H ds vs Q env' R r h k => ?_⟩
  unfold gsNil at h
  split at h
  · cases h; cases r; exact ⟨rfl, k σ R fun _ _ => rfl⟩
  · cases h
theorem gvs_cons {e : Expr} {es : List Expr} {i j : List Nat} {f : D → En → Option En} {r : List D → En → Option En} (h1 : GV Z e i f) (h2 : GVs Z es j r)
    (hs : ∀ env, (assignEach (e :: es) env).map (·.2) = assign e env :: (assignEach es env).map (·.2) := by intro _; rfl) : GVs Z (e :: es) (i ++ j) (gsCons f r) := by
  obtain ⟨t, a1, a2⟩ := h1
  obtain ⟨u, b1, b2⟩ := h2
  refine ⟨gCons t u, fun X k => pgs_cons (a1 X k) (b1 X k) (hs _), fun g env σ I H ds vs Q env' R rr h k => ?_⟩
  unfold gsCons at h
  split at h
  · rename_i d ds
    cases rr with
    | cons r1 r2 =>
      cases e1 : f d env with
      | none => rw [e1] at h; cases h
      | some en =>
        rw [e1] at h
        simp only [Option.bind_some] at h
        refine ⟨_, _, rfl, a2 g env σ I H d _ _ en R r1 e1 fun σ1 R1 w1 => b2 g en σ1 I H ds _ Q env' R1 r2 h fun σ2 R2 w2 => k σ2 R2 fun ws hw => ?_⟩
        rw [w2 ws (fun q hq => hw q (List.mem_append_right _ hq)), w1 ws (fun q hq => hw q (List.mem_append_left _ hq))]
  · cases h
def gT (n : Nat) (r : List D → En → Option En) : D → En → Option En := fun d env => match d with
  | .tup xs => if xs.length = n then r xs env else none
  | _ => none
theorem gv_tup {es : List Expr} {k n : Nat} {p : Pos} {ix : List Nat} {r : List D → En → Option En} (h : GVs Z es ix r)
    (hn : ∀ env, (assignEach es env).length = n := by intro _; rfl) (hst : ∀ env, (assignEach es env).findIdx? (·.1) = none := by intro _; rfl) : GV Z (.Tuple es k p) ix (gT n r) := by
  obtain ⟨t, a1, a2⟩ := h
  refine ⟨gTup Z.K n t, fun X i => by have q := pg_tup (X := X) (k := k) (pos := p) i.calm (a1 X i) (hn _) (hst _); rw [i.K] at q; exact q, fun g env σ I H d v Q env' R rr h k => ?_⟩
  unfold gT at h
  split at h
  · split at h
    · rename_i hl
      obtain ⟨a, vs, rfl, h1, h2⟩ := rr.tup_inv
      exact ⟨a, vs, rfl, SqT.mono R.sub h1, by rw [← h2.length]; exact hl, a2 g env σ I H _ vs Q env' R h2 h k⟩
    · cases h
  · cases h
/-- a, b = e -/
def mAsgG (gf : D → En → Option En) (a : ME) : MS := fun env => (a env).bind fun p => (gf p.1 p.2).map .nx
theorem sv_asgG {tg e : Expr} {m : ME} {ix : List Nat} {gf : D → En → Option En} {pos : Pos} (hg : GV Z tg ix gf) (h : EV Z e m) (hs : ∀ env, swapsWithSole [tg] e pos.line env = pure false := by intro _; rfl) (hw : ∀ env, swappedStores [tg] e env = pure none := by intro _; rfl)
    (h1 : ∀ env, (assignEach [tg] env).map (·.2) = [assign tg env] := by intro _; rfl) : SV Z (.Assign [tg] e pos) (mAsgG gf m) := by
  obtain ⟨t, q1, q2⟩ := h
  obtain ⟨u, g1, g2⟩ := hg
  refine ⟨_, fun X k => ps_asg (q1 X k) (g1 X k) (hs _) (hw _) (h1 _), fun g env σ I H D fl R hm k => ?_⟩
  unfold mAsgG at hm
  cases e1 : m env with
  | none => rw [e1] at hm; cases hm
  | some r =>
    rw [e1] at hm
    simp only [Option.bind_some] at hm
    cases e2 : gf r.1 r.2 with
    | none => rw [e2] at hm; cases hm
    | some en =>
      rw [e2] at hm; cases hm
      exact q2 g env σ I H _ r.1 r.2 R e1 fun v I1 H1 R1 s1 rv => g2 g r.2 σ I1 H1 r.1 v _ en R1 rv e2 fun σ' R' _ => k σ' I1 H1 R' s1
/-! ### what is walked -/
def WD (Z : Zc) (J : It) (ds : List D) (I : Hp) : Prop := ∃ (Gd : Hp → Prop) (Y : Nat → Hp → V → Hp → Prop), Walk J ds.length Gd Y ∧ (∀ I' H', Same I I' → Same I' H' → Gd H') ∧
  ∀ (i : Nat) (d : D) (g : G) (env : En) (σ : St) (I' H : Hp) (x : V) (H' : Hp), ds[i]? = some d → Same I I' → SR Z.K Z.cl g env σ I' H → Y i H x H' → ∃ I2, SR Z.K Z.cl g env σ I2 H' ∧ Same I' I2 ∧ Rep Z.K Z.cl I2 d x
abbrev MI := En → Option (List D × En)
def SI (Z : Zc) (wi : TI) (m : MI) : Prop := ∀ (g : G) (env : En) (σ : St) (I H : Hp) (R : It → Hp → Prop) (ds : List D) (env' : En), SR Z.K Z.cl g env σ I H → m env = some (ds, env') →
  (∀ J I' H', SR Z.K Z.cl g env' σ I' H' → Same I I' → WD Z J ds I' → R J H') → wi σ H R
def IV (Z : Zc) (tg e : Expr) (m : MI) : Prop := ∃ wi, (∀ X, InF Z X → PI X tg e wi) ∧ SI Z wi m
theorem pi_or {X : Cx} {tg e : Expr} {w1 w2 : TI} (h1 : PI X tg e w1) (h2 : PI X tg e w2) : PI X tg e (fun σ H R => w1 σ H R ∨ w2 σ H R) :=
  ⟨fun pins s σ H R I h => h.elim (h1.run pins s σ H R I) (h2.run pins s σ H R I)⟩
def signs (z : Str) : List D := z.cps.toList.map fun c => .str ⟨#[c]⟩
def D.walk? : D → Option (List D)
  | .lst xs => some xs
  | .scr xs => some xs
  | .tup xs => some xs
  | .str z => some (signs z)
  | _ => none
def iAny (a : ME) : MI := fun env => (a env).bind fun p => (p.1.walk?).map fun xs => (xs, p.2)
theorem wd_list {a : Addr} {xs : List D} {vs : List V} {I : Hp} (h : SqL Z.K I a vs) (r : Reps Z.K Z.cl I xs vs) : WD Z (Itl Z.K a) xs I := by
  refine ⟨_, _, by rw [r.length]; exact walk_list, fun I' H' s s' => (s.trans s').seq h, fun i d g env σ I' H x H' hd s R y => ?_⟩
  obtain ⟨rfl, hx⟩ := y
  obtain ⟨v, hv, rv⟩ := r.get hd
  rw [hv] at hx; cases hx
  exact ⟨I', R, Same.refl _, rv.mono s⟩
theorem wd_tup {a : Addr} {xs : List D} {vs : List V} {I : Hp} (h : SqT Z.K I a vs) (r : Reps Z.K Z.cl I xs vs) : WD Z (Itt Z.K a) xs I := by
  refine ⟨_, _, by rw [r.length]; exact walk_tup, fun I' H' s s' => SqT.mono (s.trans s') h, fun i d g env σ I' H x H' hd s R y => ?_⟩
  obtain ⟨rfl, hx⟩ := y
  obtain ⟨v, hv, rv⟩ := r.get hd
  rw [hv] at hx; cases hx
  exact ⟨I', R, Same.refl _, rv.mono s⟩
theorem wd_str {z : Str} {I : Hp} : WD Z (Its z) (signs z) I := by
  refine ⟨_, _, by unfold signs; rw [List.length_map, Array.length_toList]; exact walk_str, fun I' H' s s' => trivial, fun i d g env σ I' H x H' hd s R y => ?_⟩
  obtain ⟨rfl, c, hc, rfl⟩ := y
  unfold signs at hd
  rw [List.getElem?_map, Array.getElem?_toList, hc] at hd
  cases hd
  exact ⟨I', R, Same.refl _, .str⟩
theorem iv_any {tg e : Expr} {m : ME} (h : EV Z e m) : IV Z tg e (iAny m) := by
  obtain ⟨t, h1, h2⟩ := h
  refine ⟨fun σ H R => iList Z.K t σ H R ∨ (iTup Z.K t σ H R ∨ iStr t σ H R), fun X i => ?_, fun g env σ I H R ds env' Rr hm k => ?_⟩
  · have q1 := pi_list (X := X) (tg := tg) (h1 X i)
    have q2 := pi_tup (X := X) (tg := tg) (h1 X i)
    rw [i.K] at q1 q2
    exact pi_or q1 (pi_or q2 (pi_str (h1 X i)))
  · unfold iAny at hm
    cases e1 : m env with
    | none => rw [e1] at hm; cases hm
    | some p =>
      obtain ⟨d, en⟩ := p
      rw [e1] at hm; simp only [Option.bind_some] at hm
      cases d <;> simp only [D.walk?] at hm <;> first | cases hm | skip
      · refine .inr (.inr (h2 g env σ I H _ _ _ Rr e1 fun v I1 H1 R1 s1 rv => ⟨_, rv.str_inv, k _ I1 H1 R1 s1 wd_str⟩))
      · refine .inl (h2 g env σ I H _ _ _ Rr e1 fun v I1 H1 R1 s1 rv => ?_)
        obtain ⟨a, vs, rfl, ha, ra⟩ := rv.lst_inv
        exact ⟨a, rfl, ⟨vs, SqL.of (R1.sub _ _ ha)⟩, k _ I1 H1 R1 s1 (wd_list (SqL.of ha) ra)⟩
      · refine .inr (.inl (h2 g env σ I H _ _ _ Rr e1 fun v I1 H1 R1 s1 rv => ?_))
        obtain ⟨a, vs, rfl, ha, ra⟩ := rv.tup_inv
        exact ⟨a, rfl, ⟨vs, SqT.mono R1.sub ha⟩, k _ I1 H1 R1 s1 (wd_tup ha ra)⟩
      · refine .inl (h2 g env σ I H _ _ _ Rr e1 fun v I1 H1 R1 s1 rv => ?_)
        obtain ⟨a, vs, rfl, ha, ra⟩ := rv.scr_inv
        exact ⟨a, rfl, ⟨vs, R1.sub.seq ha⟩, k _ I1 H1 R1 s1 (wd_list ha ra)⟩
def rngD (lo : Int) (n : Nat) : List D := (List.range n).map fun i => .int (lo + (i : Nat))
theorem wd_rng {lo : Int} {n : Nat} {I : Hp} : WD Z (Itr lo n) (rngD lo n) I := by
  refine ⟨_, _, by unfold rngD; rw [List.length_map, List.length_range]; exact walk_range, fun _ _ _ _ => trivial, fun i d g env σ I' H x H' hd s R y => ?_⟩
  obtain ⟨rfl, rfl⟩ := y
  unfold rngD at hd
  rw [List.getElem?_map] at hd
  cases e : (List.range n)[i]? with
  | none => rw [e] at hd; cases hd
  | some j =>
    rw [e] at hd
    cases hd
    obtain ⟨h1, h2⟩ := List.getElem?_eq_some_iff.mp e
    rw [List.getElem_range] at h2
    subst h2
    exact ⟨I', R, Same.refl _, .int⟩
def iR1 (a : En → Option (List D × En)) : MI := fun env => (a env).bind fun p => match p.1 with
  | [.int j] => if -(2 ^ 62) ≤ j ∧ j < 2 ^ 62 then some (rngD 0 j.toNat, p.2) else none
  | _ => none
def iR2 (a : En → Option (List D × En)) : MI := fun env => (a env).bind fun p => match p.1 with
  | [.int i, .int j] => if -(2 ^ 62) ≤ i ∧ i < 2 ^ 62 ∧ -(2 ^ 62) ≤ j ∧ j < 2 ^ 62 then some (rngD i (j - i).toNat, p.2) else none
  | _ => none
theorem iv_rng1 {tg a : Expr} {m : En → Option (List D × En)} {p pos : Pos} (hg : GlZ Z "range") (hm : Z.mg "range" = none) (h : AE Z [a] m) (hs : ∀ env, starEach [a] env = [(false, eval a env)] := by intro _; rfl) : IV Z tg (.Call (.Name "range" p) [a] [] pos) (iR1 m) := by
  obtain ⟨t, h1, h2⟩ := h
  refine ⟨iRng1 t, fun X i => pi_range1 (glOf i hg) (by rw [i.mg]; exact hm) (h1 X i) (hs _), fun g env σ I H R ds env' Rr hm k => ?_⟩
  unfold iR1 at hm
  cases hes : m env with
  | none => rw [hes] at hm; cases hm
  | some es =>
    rw [hes] at hm
    simp only [Option.bind_some] at hm
    obtain ⟨es, en⟩ := es
    refine h2 g env σ I H _ es en Rr hes fun vs I1 H1 R1 s1 rs => ?_
    dsimp only at hm
    split at hm
    · split at hm
      · rename_i hb
        cases hm
        cases rs with
        | cons r1 r2 =>
          cases r2
          cases r1.int_inv
          exact ⟨_, rfl, hb.1, hb.2, k _ I1 H1 R1 s1 wd_rng⟩
      · cases hm
    · cases hm
theorem iv_rng2 {tg a b : Expr} {m : En → Option (List D × En)} {p pos : Pos} (hg : GlZ Z "range") (hm : Z.mg "range" = none) (h : AE Z [a, b] m) (hs : ∀ env, starEach [a, b] env = [(false, eval a env), (false, eval b env)] := by intro _; rfl) (hs2 : ∀ env, starEach [b] env = [(false, eval b env)] := by intro _; rfl) : IV Z tg (.Call (.Name "range" p) [a, b] [] pos) (iR2 m) := by
  obtain ⟨t, h1, h2⟩ := h
  refine ⟨iRng2 t, fun X i => pi_range2 (glOf i hg) (by rw [i.mg]; exact hm) (h1 X i) (hs _) (hs2 _), fun g env σ I H R ds env' Rr hm k => ?_⟩
  unfold iR2 at hm
  cases hes : m env with
  | none => rw [hes] at hm; cases hm
  | some es =>
    rw [hes] at hm
    simp only [Option.bind_some] at hm
    obtain ⟨es, en⟩ := es
    refine h2 g env σ I H _ es en Rr hes fun vs I1 H1 R1 s1 rs => ?_
    dsimp only at hm
    split at hm
    · split at hm
      · rename_i hb
        cases hm
        cases rs with
        | cons r1 r2 =>
          cases r2 with
          | cons r2 r3 =>
            cases r3
            cases r1.int_inv
            cases r2.int_inv
            exact ⟨_, _, rfl, hb, k _ I1 H1 R1 s1 wd_rng⟩
      · cases hm
    · cases hm
/-- a new tuple, given to all -/
theorem SR.tup {K : PySem.W.Frag} {cl : String → Option Addr} {g : G} {env : En} {σ : St} {I H : Hp} (R : SR K cl g env σ I H) {p : Addr} {ds : List D} {vs : List V} (hp : H p = none) (r : Reps K cl I ds vs) :
    SR K cl g env σ (upd I p (.tup vs)) (upd H p (.tup vs)) ∧ Same I (upd I p (.tup vs)) ∧ Rep K cl (upd I p (.tup vs)) (.tup ds) (.ref p) := by
  obtain ⟨R2, s2⟩ := (R.alloc hp _).freeze (R.new (o := .tup vs) hp)
  exact ⟨R2, s2, .tup (SqT.of upd_same) (r.mono s2)⟩
def enumD (k : Nat) : List D → List D
  | [] => []
  | d :: ds => .tup [.int (k : Int), d] :: enumD (k + 1) ds
theorem enumD_length : ∀ (ds : List D) (k : Nat), (enumD k ds).length = ds.length
  | [], _ => rfl
  | d :: ds, k => by simp [enumD, enumD_length ds]
theorem enumD_get : ∀ (ds : List D) (k i : Nat) (e : D), (enumD k ds)[i]? = some e → ∃ d, ds[i]? = some d ∧ e = .tup [.int ((k + i : Nat) : Int), d]
  | [], k, i, e, h => by simp [enumD] at h
  | d :: ds, k, 0, e, h => by simp [enumD] at h; exact ⟨d, rfl, h.symm⟩
  | d :: ds, k, i + 1, e, h => by
    obtain ⟨d', h1, h2⟩ := enumD_get ds (k + 1) i e (by simpa [enumD] using h)
    refine ⟨d', by simpa using h1, ?_⟩
    rw [h2]
    have : k + 1 + i = k + (i + 1) := by omega
    rw [this]
def iEn (a : En → Option (List D × En)) : MI := fun env => (a env).bind fun p => match p.1 with
  | [.lst xs] => some (enumD 0 xs, p.2)
  | _ => none
theorem iv_enum {a : Expr} {m : En → Option (List D × En)} {elts : List Expr} {kk : Nat} {p pos tpos : Pos} (hg : GlZ Z "enumerate") (hm : Z.mg "enumerate" = none) (h : AE Z [a] m) (hs : ∀ env, starEach [a] env = [(false, eval a env)] := by intro _; rfl) : IV Z (.Tuple elts kk tpos) (.Call (.Name "enumerate" p) [a] [] pos) (iEn m) := by
  obtain ⟨t, h1, h2⟩ := h
  refine ⟨iEnum Z.K t, fun X i => by have q := pi_enum (X := X) (p := p) (pos := pos) (tpos := tpos) (elts := elts) (kk := kk) (glOf i hg) (by rw [i.mg]; exact hm) (h1 X i) (hs _); rw [i.K] at q; exact q, fun g env σ I H R ds env' Rr hm k => ?_⟩
  unfold iEn at hm
  cases hes : m env with
  | none => rw [hes] at hm; cases hm
  | some es =>
    rw [hes] at hm
    simp only [Option.bind_some] at hm
    obtain ⟨es, en⟩ := es
    refine h2 g env σ I H _ es en Rr hes fun vs I1 H1 R1 s1 rs => ?_
    dsimp only at hm
    split at hm
    · rename_i xs
      cases hm
      cases rs with
      | cons r1 r2 =>
        cases r2
        obtain ⟨a, us, rfl, ha, ra⟩ := r1.lst_inv
        refine ⟨a, us, rfl, SqL.of (R1.sub _ _ ha), k _ I1 H1 R1 s1 ?_⟩
        refine ⟨_, _, by have q := walk_enum (K := Z.K) (a := a) (xs := us); rw [← ra.length, ← enumD_length xs 0] at q; exact q, fun I' H' s s' => SqL.of (s' _ _ (s _ _ ha)), fun i d g env σ I' H x H' hd s R y => ?_⟩
        obtain ⟨T, x1, y1, rfl, hT, rfl, hx1, hy1⟩ := y
        obtain ⟨d', hd', rfl⟩ := enumD_get _ _ _ _ hd
        obtain ⟨v, hv, rv⟩ := ra.get hd'
        dsimp only at hx1 hy1
        cases hx1
        rw [hv] at hy1; cases hy1
        obtain ⟨R2, s2, r2⟩ := R.tup (ds := [.int ((0 + i : Nat) : Int), d']) hT (.cons (by simp only [Nat.zero_add]; exact .int) (.cons (rv.mono s) .nil))
        exact ⟨_, R2, s2, r2⟩
    · cases hm
def zipD : List D → List D → List D
  | a :: as, b :: bs => .tup [a, b] :: zipD as bs
  | _, _ => []
theorem zipD_length : ∀ (as bs : List D), (zipD as bs).length = min as.length bs.length
  | [], bs => by simp [zipD]
  | a :: as, [] => by simp [zipD]
  | a :: as, b :: bs => by simp [zipD, zipD_length as bs]
theorem zipD_get : ∀ (as bs : List D) (i : Nat) (e : D), (zipD as bs)[i]? = some e → ∃ a b, as[i]? = some a ∧ bs[i]? = some b ∧ e = .tup [a, b]
  | [], bs, i, e, h => by simp [zipD] at h
  | a :: as, [], i, e, h => by simp [zipD] at h
  | a :: as, b :: bs, 0, e, h => by simp [zipD] at h; exact ⟨a, b, rfl, rfl, h.symm⟩
  | a :: as, b :: bs, i + 1, e, h => by
    obtain ⟨x, y, h1, h2, h3⟩ := zipD_get as bs i e (by simpa [zipD] using h)
    exact ⟨x, y, by simpa using h1, by simpa using h2, h3⟩
def iZp (a : En → Option (List D × En)) : MI := fun env => (a env).bind fun p => match p.1 with
  | [.lst xs, .lst ys] => some (zipD xs ys, p.2)
  | _ => none
theorem iv_zip {a b : Expr} {m : En → Option (List D × En)} {elts : List Expr} {kk : Nat} {p pos tpos : Pos} (hg : GlZ Z "zip") (hm : Z.mg "zip" = none) (h : AE Z [a, b] m) (hs : ∀ env, starEach [a, b] env = (false, eval a env) :: starEach [b] env := by intro _; rfl) (hpl : ∀ env, (backTo pos (starEach [b] env)).any (·.1) = false := by intro _; rfl) : IV Z (.Tuple elts kk tpos) (.Call (.Name "zip" p) [a, b] [] pos) (iZp m) := by
  obtain ⟨t, h1, h2⟩ := h
  refine ⟨iZip Z.K t, fun X i => by have q := pi_zip (X := X) (p := p) (pos := pos) (tpos := tpos) (elts := elts) (kk := kk) (glOf i hg) (by rw [i.mg]; exact hm) (h1 X i) (hs _) (hpl _); rw [i.K] at q; exact q, fun g env σ I H R ds env' Rr hm k => ?_⟩
  unfold iZp at hm
  cases hes : m env with
  | none => rw [hes] at hm; cases hm
  | some es =>
    rw [hes] at hm
    simp only [Option.bind_some] at hm
    obtain ⟨es, en⟩ := es
    refine h2 g env σ I H _ es en Rr hes fun vs I1 H1 R1 s1 rs => ?_
    dsimp only at hm
    split at hm
    · rename_i xs ys
      cases hm
      cases rs with
      | cons r1 r2 =>
        cases r2 with
        | cons r2 r3 =>
          cases r3
          obtain ⟨a, us, rfl, ha, ra⟩ := r1.lst_inv
          obtain ⟨b, ws, rfl, hb, rb⟩ := r2.lst_inv
          refine ⟨a, b, us, ws, rfl, SqL.of (R1.sub _ _ ha), SqL.of (R1.sub _ _ hb), k _ I1 H1 R1 s1 ?_⟩
          refine ⟨_, _, walk_zip (by rw [zipD_length, ra.length, rb.length]), fun I' H' s s' => ⟨SqL.of (s' _ _ (s _ _ ha)), SqL.of (s' _ _ (s _ _ hb))⟩, fun i d g env σ I' H x H' hd s R y => ?_⟩
          obtain ⟨T, x1, y1, rfl, hT, rfl, hx1, hy1⟩ := y
          obtain ⟨d1, d2, hd1, hd2, rfl⟩ := zipD_get _ _ _ _ hd
          obtain ⟨v, hv, rv⟩ := ra.get hd1
          obtain ⟨w, hw, rw'⟩ := rb.get hd2
          dsimp only at hx1 hy1
          rw [hv] at hx1; cases hx1
          rw [hw] at hy1; cases hy1
          obtain ⟨R2, s2, r2⟩ := R.tup (ds := [d1, d2]) hT (.cons (rv.mono s) (.cons (rw'.mono s) .nil))
          exact ⟨_, R2, s2, r2⟩
    · cases hm
/-! ### for, while -/
def mFor (gf : D → En → Option En) (body : MS) : List D → MS
  | [], env => some (.nx env)
  | d :: ds, env => (gf d env).bind fun e => (body e).bind fun fl => match fl with
    | .nx e' => mFor gf body ds e'
    | .ct e' => mFor gf body ds e'
    | .bk e' => some (.nx e')
    | .ret md r e' => some (.ret md r e')
def mForS (it : MI) (gf : D → En → Option En) (body : MS) : MS := fun env => (it env).bind fun p => mFor gf body p.1 p.2
theorem sv_for {tg e : Expr} {b : List Stmt} {mi : MI} {ix : List Nat} {gf : D → En → Option En} {mb : MS} {pos : Pos} (hi : IV Z tg e mi) (hg : GV Z tg ix gf) (hb : BV Z b mb) (hs : ∀ env x, foldedSetIterable e env x = pure x := by intro _ _; rfl) : SV Z (.For tg e b [] pos) (mForS mi gf mb) := by
  obtain ⟨wi, i1, i2⟩ := hi
  obtain ⟨gt, g1, g2⟩ := hg
  obtain ⟨tb, b1, b2⟩ := hb
  refine ⟨tFor wi gt tb, fun X k => ps_for k.own k.calm (i1 X k) (g1 X k) (b1 X k) (hs _), fun g env σ I H D fl R hm k => ?_⟩
  unfold mForS at hm
  cases e1 : mi env with
  | none => rw [e1] at hm; cases hm
  | some p =>
    obtain ⟨ds, en⟩ := p
    rw [e1] at hm; simp only [Option.bind_some] at hm
    refine i2 g env σ I H _ ds en R e1 fun J I1 H1 R1 s1 wd => ?_
    obtain ⟨Gd, Y, hw, hgd, hy⟩ := wd
    refine for_it hw (fun i σ' H' => ∃ env' I', SR Z.K Z.cl g env' σ' I' H' ∧ Same I1 I' ∧ mFor gf mb (ds.drop i) env' = some fl) ⟨en, I1, R1, Same.refl _, hm⟩ (fun i σ' H' _ ⟨env', I', R', s', _⟩ => hgd I' H' s' R'.sub) ?_ ?_
    · rintro i x σ2 H2 H3 hlt ⟨env2, I2, R2, s2, hm2⟩ hyld
      have hd : ds[i]? = some ds[i] := List.getElem?_eq_getElem hlt
      have hdrop : ds.drop i = ds[i] :: ds.drop (i + 1) := List.drop_eq_getElem_cons hlt
      rw [hdrop] at hm2
      obtain ⟨I3, R3, s3, r3⟩ := hy i ds[i] g env2 σ2 I2 H2 x H3 hd s2 R2 hyld
      unfold mFor at hm2
      cases e2 : gf ds[i] env2 with
      | none => rw [e2] at hm2; cases hm2
      | some en2 =>
        rw [e2] at hm2; simp only [Option.bind_some] at hm2
        refine g2 g env2 σ2 I3 H3 ds[i] x _ en2 R3 r3 e2 fun σ4 R4 _ => ?_
        cases e3 : mb en2 with
        | none => rw [e3] at hm2; cases hm2
        | some f =>
          rw [e3] at hm2; simp only [Option.bind_some] at hm2
          refine b2 g en2 σ4 I3 H3 _ f R4 e3 ?_
          cases f with
          | nx e => exact fun σ5 I5 H5 R5 s5 => ⟨e, I5, R5, (s2.trans s3).trans s5, hm2⟩
          | ct e => exact fun σ5 I5 H5 R5 s5 => ⟨e, I5, R5, (s2.trans s3).trans s5, hm2⟩
          | bk e => cases hm2; exact fun σ5 I5 H5 R5 s5 => k σ5 I5 H5 R5 (s1.trans ((s2.trans s3).trans s5))
          | ret md r e => cases hm2; exact fun σ5 I5 H5 v R5 s5 hr => k σ5 I5 H5 v R5 (s1.trans ((s2.trans s3).trans s5)) hr
    · rintro σ2 H2 ⟨env2, I2, R2, s2, hm2⟩
      rw [List.drop_length] at hm2
      cases hm2
      exact k σ2 I2 H2 R2 (s1.trans s2)
def mWhile (c : MT) (b : MS) : Nat → MS
  | 0, _ => none
  | n + 1, env => (c env).bind fun p => if p.1 then (b p.2).bind fun fl => match fl with
      | .nx e' => mWhile c b n e'
      | .ct e' => mWhile c b n e'
      | .bk e' => some (.nx e')
      | .ret md r e' => some (.ret md r e')
    else some (.nx p.2)
def mWh (fuel : En → Nat) (c : MT) (b : MS) : MS := fun env => mWhile c b (fuel env) env
theorem sv_while (fuel : En → Nat) {c : Expr} {b : List Stmt} {mc : MT} {mb : MS} {pos : Pos} (hc : TV Z c mc) (hb : BV Z b mb) : SV Z (.While c b [] pos) (mWh fuel mc mb) := by
  obtain ⟨tc, c1, c2⟩ := hc
  obtain ⟨tb, b1, b2⟩ := hb
  refine ⟨tWhile tc tb, fun X k => ps_while k.own (c1 X k) (b1 X k), fun g env σ I H D fl R hm k => ?_⟩
  refine ⟨fun m σ' H' => ∃ env' I', SR Z.K Z.cl g env' σ' I' H' ∧ Same I I' ∧ mWhile mc mb m env' = some fl, ⟨fuel env, env, I, R, Same.refl _, hm⟩, ?_⟩
  rintro m σ2 H2 ⟨env2, I2, R2, s2, hm2⟩
  cases m with
  | zero => cases hm2
  | succ m =>
    unfold mWhile at hm2
    cases e1 : mc env2 with
    | none => rw [e1] at hm2; cases hm2
    | some p =>
      obtain ⟨bb, en⟩ := p
      rw [e1] at hm2; simp only [Option.bind_some] at hm2
      refine c2 g env2 σ2 I2 H2 _ bb en R2 e1 fun I3 H3 R3 s3 => ?_
      cases bb with
      | false => cases hm2; exact k σ2 I3 H3 R3 (s2.trans s3)
      | true =>
        simp only [if_true] at hm2 ⊢
        cases e3 : mb en with
        | none => rw [e3] at hm2; cases hm2
        | some f =>
          rw [e3] at hm2; simp only [Option.bind_some] at hm2
          refine ⟨fun σ' H' => ∃ env' I', SR Z.K Z.cl g env' σ' I' H' ∧ Same I I' ∧ mWhile mc mb m env' = some fl, fun σ' H' h => ⟨m, Nat.lt_succ_self m, h⟩, ?_⟩
          refine b2 g en σ2 I3 H3 _ f R3 e3 ?_
          cases f with
          | nx e => exact fun σ5 I5 H5 R5 s5 => ⟨e, I5, R5, (s2.trans s3).trans s5, hm2⟩
          | ct e => exact fun σ5 I5 H5 R5 s5 => ⟨e, I5, R5, (s2.trans s3).trans s5, hm2⟩
          | bk e => cases hm2; exact fun σ5 I5 H5 R5 s5 => k σ5 I5 H5 R5 ((s2.trans s3).trans s5)
          | ret md r e => cases hm2; exact fun σ5 I5 H5 v R5 s5 hr => k σ5 I5 H5 v R5 ((s2.trans s3).trans s5) hr
end
end Q
namespace Q
open PySem L2
section
variable {Z : Zc}
/-! ## Comprehensions -/
def ZB (Z : Zc) (scope : Scope) : Zc := { Z with sc := relS scope Z.sc, all := false, me := none }
theorem inB {X : Cx} {scope : Scope} (h : InF Z X) (s : Shared) (H : Hp) (C : Addr) (cl : List (Str × Addr)) (fp : List Addr) : InF (ZB Z scope) (X.blk s H scope (compEnvC scope cl C X.env) fp) :=
  ⟨h.prog, h.w, h.K, h.mg, h.base, h.N, (by show relS scope X.env.scope = relS scope Z.sc; rw [h.sc]), h.calm, h.room, h.nd, (fun e => Bool.noConfusion (show false = true from e)), PassesOwn.never, h.gd, fun _ _ e => by cases e⟩
/-- the ifs of a comprehension -/
def CV (Z : Zc) (es : List Expr) (m : MT) : Prop := ∃ t, (∀ X, InF Z X → PTs X es t) ∧ ST Z t m
def mYes : MT := fun env => some (true, env)
theorem cv_nil : CV Z [] mYes := ⟨tYes, fun _ _ => pts_nil, fun g env σ I H Q b env' R hm k => by cases hm; exact k I H R (Same.refl _)⟩
theorem cv_one {e : Expr} {m : MT} (h : TV Z e m) : CV Z [e] m := let ⟨t, h1, h2⟩ := h; ⟨t, fun X i => pts_one (h1 X i), h2⟩
def wipeE (env : En) : List Nat → En
  | [] => env
  | v :: vs => (wipeE env vs).set v .un
theorem SR.unset {K : PySem.W.Frag} {cl : String → Option Addr} {g : G} {env : En} {σ : St} {I H : Hp} (R : SR K cl g env σ I H) (i : Nat) (x : Option V) : SR K cl g (env.set i .un) (σ.set i x) I H := by
  by_cases h : i < σ.length
  · exact R.setUn h
  · have h2 : ¬ i < env.length := by rw [R.len]; exact h
    rw [List.set_eq_of_length_le (by omega), List.set_eq_of_length_le (by omega)]
    exact R
theorem SR.wipe {K : PySem.W.Frag} {cl : String → Option Addr} {g : G} {env : En} {σ : St} {I H : Hp} (R : SR K cl g env σ I H) : ∀ vs, SR K cl g (wipeE env vs) (wipe σ vs) I H
  | [] => R
  | v :: vs => (SR.wipe R vs).unset v none
/-- a name of the block: what it was stands still -/
def Sl.calm : Sl → Bool
  | .un => true
  | .imm _ => true
  | _ => false
def calmAt (env : En) (vs : List Nat) : Bool := vs.all fun v => match env[v]? with
  | some s => s.calm
  | none => false
def backE (e0 env : En) : List Nat → En
  | [] => env
  | v :: vs => match e0[v]? with
    | some s => backE e0 (env.set v s) vs
    | none => backE e0 env vs
theorem wipe_out {σ : St} {i : Nat} : ∀ {vs : List Nat}, i ∉ vs → (wipe σ vs)[i]? = σ[i]?
  | [], _ => rfl
  | v :: vs, h => by
    show ((wipe σ vs).set v none)[i]? = σ[i]?
    rw [List.getElem?_set_ne (fun z => h (by rw [z]; exact List.mem_cons_self)), wipe_out fun z => h (List.mem_cons_of_mem _ z)]
theorem SR.back {K : PySem.W.Frag} {cl : String → Option Addr} {g g0 : G} {e0 : En} {σ : St} {I0 H0 : Hp} (R0 : SR K cl g0 e0 σ I0 H0) :
    ∀ (vs : List Nat) {env : En} {I H : Hp}, vs.Nodup → calmAt e0 vs = true → SR K cl g env (L2.wipe σ vs) I H → Same I0 I → SR K cl g (backE e0 env vs) σ I H
  | [], env, I, H, _, _, R, _ => R
  | v :: vs, env, I, H, hnd, hc, R, s => by
    unfold calmAt at hc
    rw [List.all_cons, Bool.and_eq_true] at hc
    obtain ⟨h1, h2⟩ := hc
    obtain ⟨hv, hnd2⟩ := List.nodup_cons.mp hnd
    unfold backE
    cases e : e0[v]? with
    | none => rw [e] at h1; cases h1
    | some sl =>
      rw [e] at h1
      obtain ⟨x, hx, q⟩ := R0.at_ v sl e
      have hvl : v < σ.length := (List.getElem?_eq_some_iff.mp hx).1
      have hs : SlotOk K cl g I H sl x := by
        cases sl with
        | un => trivial
        | imm d => obtain ⟨w, rfl, r⟩ := q; exact ⟨w, rfl, r.mono s⟩
        | _ => cases h1
      have ht : sl.top = false := by cases sl <;> first | rfl | cases h1
      have R1 := R.store (i := v) (s' := sl) (x := x) (by rw [wipe_length]; exact hvl) hs (fun a _ z => by rw [ht] at z; cases z)
      have e1 : (L2.wipe σ (v :: vs)).set v x = L2.wipe σ vs := by
        show ((L2.wipe σ vs).set v none).set v x = L2.wipe σ vs
        rw [List.set_set]
        have q2 : (L2.wipe σ vs)[v]? = some x := by rw [wipe_out hv]; exact hx
        apply List.ext_getElem?
        intro j
        by_cases hj : j = v
        · subst hj; rw [List.getElem?_set_self (by rw [wipe_length]; exact hvl)]; exact q2.symm
        · rw [List.getElem?_set_ne (Ne.symm hj)]
      rw [e1] at R1
      exact SR.back R0 vs hnd2 h2 R1 s
/-- with a list beside -/
abbrev G.beside (g : G) (p : Addr) (o : HO) : G := { g with X := (p, o) :: g.X }
section
variable {K : PySem.W.Frag} {cl : String → Option Addr} {g : G} {env : En} {σ : St} {I H : Hp} {p : Addr} {o o' : HO}
theorem SR.put (R : SR K cl g env σ I H) (n : New g env σ I H p o) : SR K cl (g.beside p o) env σ I H :=
  ⟨R.sub, R.i0, R.h0, R.hi, R.oh, R.len, R.at_, R.dis, fun a u h => by
    rcases List.mem_cons.mp h with h | h
    · cases h; exact ⟨n.at_, n.i, n.no⟩
    · exact R.ex a u h, fun a u h => by
    rcases List.mem_cons.mp h with h | h
    · cases h; exact n.h0
    · exact R.ex0 a u h, R.tb⟩
theorem SR.take (hx : ∀ u, (p, u) ∉ g.X) (R : SR K cl (g.beside p o) env σ I H) : SR K cl g env σ I H ∧ New g env σ I H p o :=
  ⟨⟨R.sub, R.i0, R.h0, R.hi, R.oh, R.len, R.at_, R.dis, fun a u h => R.ex a u (List.mem_cons_of_mem _ h), fun a u h => R.ex0 a u (List.mem_cons_of_mem _ h), R.tb⟩,
   (R.ex p o List.mem_cons_self).1, (R.ex p o List.mem_cons_self).2.1, R.ex0 p o List.mem_cons_self, (R.ex p o List.mem_cons_self).2.2, hx⟩
theorem SR.exSet (hx : ∀ u, (p, u) ∉ g.X) (R : SR K cl (g.beside p o) env σ I H) : SR K cl (g.beside p o') env σ I (upd H p o') := by
  obtain ⟨h1, h2, h3⟩ := R.ex p o List.mem_cons_self
  have h4 := R.ex0 p o List.mem_cons_self
  have ne : ∀ (i : Nat) (s : Sl) (b : Addr), env[i]? = some s → s.top = true → σ[i]? = some (some (.ref b)) → b ≠ p := fun i s b q1 q2 q3 z => by subst z; exact h3 i s q1 q2 q3
  refine ⟨fun b u e => ?_, R.i0, fun b u e1 e2 e3 => ?_, R.hi, fun b hb => ?_, R.len, fun i s e => ?_, R.dis, fun b u hb => ?_, fun b u hb => ?_, fun b ht => ?_⟩
  · rw [upd_ne (fun z => by subst z; rw [h2] at e; cases e)]; exact R.sub b u e
  · rw [upd_ne (fun z => by subst z; rw [show g.H0 b = none from h4] at e1; cases e1)]; exact R.h0 b u e1 e2 e3
  · obtain ⟨⟨u, q1⟩, q2, v, q3⟩ := R.oh b hb
    have z : b ≠ p := fun z => by subst z; rw [show g.H0 b = none from h4] at q3; cases q3
    exact ⟨⟨u, by rw [upd_ne z]; exact q1⟩, q2, v, q3⟩
  · obtain ⟨x, hx, q⟩ := R.at_ i s e
    refine ⟨x, hx, ?_⟩
    cases s with
    | un => trivial
    | imm d => exact q
    | bor d => obtain ⟨b, rfl, u, q1, q2⟩ := q; exact ⟨b, rfl, u, by rw [upd_ne (ne i _ b e rfl hx)]; exact q1, q2⟩
    | own d => obtain ⟨b, u, rfl, q1, q2⟩ := q; exact ⟨b, u, rfl, by rw [upd_ne (ne i _ b e rfl hx)]; exact q1, q2⟩
    | lck d => obtain ⟨b, u, rfl, q1, q2⟩ := q; exact ⟨b, u, rfl, by rw [upd_ne (ne i _ b e rfl hx)]; exact q1, q2⟩
    | io k d => obtain ⟨b, u, rfl, q0, q1, q2⟩ := q; exact ⟨b, u, rfl, q0, by rw [upd_ne (ne i _ b e rfl hx)]; exact q1, q2⟩
  · rcases List.mem_cons.mp hb with hb | hb
    · cases hb; exact ⟨upd_same, h2, h3⟩
    · have z : b ≠ p := fun z => hx u (by rw [← z]; exact hb)
      obtain ⟨q1, q2, q3⟩ := R.ex b u (List.mem_cons_of_mem _ hb)
      exact ⟨by rw [upd_ne z]; exact q1, q2, q3⟩
  · rcases List.mem_cons.mp hb with hb | hb
    · cases hb; exact h4
    · exact R.ex0 b u (List.mem_cons_of_mem _ hb)
  · obtain ⟨t1, ⟨ps, t2, t3⟩, v, t4⟩ := R.tb b ht
    have z : b ≠ p := fun z => by subst z; rw [show g.H0 b = none from h4] at t4; cases t4
    exact ⟨t1, ⟨ps, by rw [upd_ne z]; exact t2, t3⟩, v, t4⟩
end
def lcLoop (gf : D → En → Option En) (mt : MT) (me : ME) (vs : List Nat) : List D → List D → En → Option (List D × En)
  | [], acc, env => some (acc, env)
  | d :: ds, acc, env => (gf d (wipeE env vs)).bind fun e1 => (mt e1).bind fun p =>
    if p.1 then (me p.2).bind fun q => if acc.length < sizeLine then lcLoop gf mt me vs ds (acc ++ [q.1]) q.2 else none
    else lcLoop gf mt me vs ds acc p.2
def mLc (vs : List Nat) (mi : MI) (gf : D → En → Option En) (mt : MT) (me : ME) : ME := fun env => (mi env).bind fun p => if calmAt p.2 vs = true then (lcLoop gf mt me vs p.1 [] p.2).map fun q => (.lst q.1, backE p.2 (wipeE q.2 vs) vs) else none
theorem lc_sf {wi : TI} {gt : TG} {tt : TT} {te : TE} {vs : List Nat} {mi : MI} {gf : D → En → Option En} {mt : MT} {me : ME} {ix : List Nat} {scope : Scope} (hnd : vs.Nodup) (hix : ∀ i ∈ ix, i ∈ vs) (i2 : SI Z wi mi)
    (g2 : ∀ (g : G) (env : En) (σ : St) (I H : Hp) (d : D) (v : V) (Q : St → Hp → Prop) (env' : En), SR Z.K Z.cl g env σ I H → Rep Z.K Z.cl I d v → gf d env = some env' →
      (∀ σ', SR Z.K Z.cl g env' σ' I H → (∀ vs, (∀ i ∈ ix, i ∈ vs) → wipe σ' vs = wipe σ vs) → Q σ' H) → gt v σ H Q)
    (t2 : ST Z tt mt) (e2 : SE Z te me) : SF Z (tLc wi gt tt te vs) (mLc vs mi gf mt me) := by
  intro g env σ I H Q d env' R hm k
  unfold mLc at hm
  cases e1 : mi env with
  | none => rw [e1] at hm; cases hm
  | some p =>
    obtain ⟨ds, en⟩ := p
    rw [e1] at hm; simp only [Option.bind_some] at hm
    split at hm
    · rename_i hcalm
      cases e3 : lcLoop gf mt me vs ds [] en with
      | none => rw [e3] at hm; cases hm
      | some q =>
        obtain ⟨fin, enf⟩ := q
        rw [e3] at hm; cases hm
        refine i2 g env σ I H _ ds en R e1 fun J I1 H1 R1 s1 wd L hL => ?_
        obtain ⟨Gd, Y, hw, hgd, hy⟩ := wd
        have hX : ∀ u, (L, u) ∉ g.X := (R1.new (o := .lst []) hL).x
        refine lc_it hw (fun i H' => ∃ env' I' acc av, SR Z.K Z.cl (g.beside L (.lst av)) (wipeE env' vs) (wipe σ vs) I' H' ∧ Same I1 I' ∧ Reps Z.K Z.cl I' acc av ∧ lcLoop gf mt me vs (ds.drop i) acc env' = some (fin, enf))
          ⟨en, I1, [], [], ((R1.alloc hL _).put (R1.new hL)).wipe vs, Same.refl _, .nil, e3⟩ (fun i H' _ ⟨env', I', acc, av, R', s', _⟩ => hgd I' H' s' R'.sub) ?_ ?_
        · rintro i x H2 H3 hlt ⟨env2, I2, acc, av, R2, s2, ra, hm2⟩ hyld
          have hd : ds[i]? = some ds[i] := List.getElem?_eq_getElem hlt
          have hdrop : ds.drop i = ds[i] :: ds.drop (i + 1) := List.drop_eq_getElem_cons hlt
          rw [hdrop] at hm2
          obtain ⟨I3, R3, s3, r3⟩ := hy i ds[i] _ _ _ I2 H2 x H3 hd s2 R2 hyld
          unfold lcLoop at hm2
          cases q1 : gf ds[i] (wipeE env2 vs) with
          | none => rw [q1] at hm2; cases hm2
          | some en3 =>
            rw [q1] at hm2; simp only [Option.bind_some] at hm2
            refine g2 _ _ _ I3 H3 ds[i] x _ en3 R3 r3 q1 fun σ4 R4 w4 => ?_
            have hwp : wipe σ4 vs = wipe σ vs := by
              rw [w4 vs hix]
              have ww : ∀ (ws us : List Nat) (τ : St), (∀ u ∈ us, u ∈ ws) → wipe (wipe τ us) ws = wipe τ ws := by
                intro ws us
                induction us with
                | nil => intro τ _; rfl
                | cons u us ih =>
                  intro τ hu
                  show wipe ((wipe τ us).set u none) ws = wipe τ ws
                  rw [wipe_set (hu u List.mem_cons_self), ih τ fun v hv => hu v (List.mem_cons_of_mem _ hv)]
              exact ww vs vs σ fun _ h => h
            refine ⟨hwp, ?_⟩
            cases q2 : mt en3 with
            | none => rw [q2] at hm2; cases hm2
            | some p2 =>
              obtain ⟨b, en4⟩ := p2
              rw [q2] at hm2; simp only [Option.bind_some] at hm2
              refine t2 _ _ _ I3 H3 _ b en4 R4 q2 fun I5 H5 R5 s5 => ?_
              cases b with
              | false =>
                simp only [Bool.false_eq_true, if_false] at hm2 ⊢
                have R6 := R5.wipe vs
                rw [hwp] at R6
                exact ⟨en4, I5, acc, av, R6, (s2.trans s3).trans s5, ra.mono (s3.trans s5), hm2⟩
              | true =>
                simp only [if_true] at hm2 ⊢
                cases q3 : me en4 with
                | none => rw [q3] at hm2; cases hm2
                | some p3 =>
                  obtain ⟨y, en5⟩ := p3
                  rw [q3] at hm2; simp only [Option.bind_some] at hm2
                  split at hm2
                  · rename_i hlen
                    refine e2 _ _ _ I5 H5 _ y en5 R5 q3 fun v I6 H6 R6 s6 rv => ?_
                    have ra6 := ra.mono ((s3.trans s5).trans s6)
                    refine ⟨av, (R6.ex L _ List.mem_cons_self).1, by rw [← ra.length]; exact hlen, en5, I6, acc ++ [y], av ++ [v], ?_, ((s2.trans s3).trans s5).trans s6, ra6.append (.cons rv .nil), hm2⟩
                    have R7 := (R6.exSet (o' := .lst (av ++ [v])) hX).wipe vs
                    rw [hwp] at R7
                    exact R7
                  · cases hm2
        · rintro H2 ⟨env2, I2, acc, av, R2, s2, ra, hm2⟩
          rw [List.drop_length] at hm2
          cases hm2
          have R3 := SR.back R1 vs hnd hcalm R2 s2
          obtain ⟨R4, n4⟩ := R3.take hX
          exact k L _ I2 H2 R4 (s1.trans s2) n4 (.lst ra)
    · cases hm
theorem ef_lc {elt tg iter : Expr} {ifs : List Expr} {scope : Scope} {own : List (Str × Nat)} {pos : Pos} {mi : MI} {ix : List Nat} {gf : D → En → Option En} {mt : MT} {me : ME} (hi : IV Z tg iter mi) (ok : BlkOk Z.N Z.sc scope own) (hg : GV (ZB Z scope) tg ix gf) (ht : CV (ZB Z scope) ifs mt)
    (he : EV (ZB Z scope) elt me) (hnd : (own.map (·.2)).Nodup := by decide) (hix : ∀ i ∈ ix, i ∈ own.map (·.2) := by decide) (hs : ∀ env x, foldedSetIterable iter env x = pure x := by intro _ _; rfl) : EF Z (.ListComp elt [⟨tg, iter, ifs, 0⟩] scope pos) (mLc (own.map (·.2)) mi gf mt me) := by
  obtain ⟨wi, i1, i2⟩ := hi
  obtain ⟨gt, g1, g2⟩ := hg
  obtain ⟨tt, t1, t2⟩ := ht
  obtain ⟨te, e1, e2⟩ := he
  exact ⟨_, fun X k => pe_lc k.calm k.nd (i1 X k) (by rw [k.N, k.sc]; exact ok) (fun s H C cl fp => g1 _ (inB k s H C cl fp)) (fun s H C cl fp => t1 _ (inB k s H C cl fp)) (fun s H C cl fp => e1 _ (inB k s H C cl fp)) (hs _), lc_sf (scope := scope) hnd hix i2 g2 t2 e2⟩
/-- y = [..] on one line -/
theorem sv_asgLc {i : Nat} {y : Str} {py : Pos} {elt tg iter : Expr} {ifs : List Expr} {scope : Scope} {own : List (Str × Nat)} {pos spos : Pos} {mi : MI} {ix : List Nat} {gf : D → En → Option En} {mt : MT} {me : ME} (hN : Z.N[i]? = some y) (hy : Z.sc.names.lookup y = some .local)
    (hk : Z.sc.kind = .function) (hl : (py.line == pos.line) = true := by rfl) (ha : (scope.names.any fun (n, k) => n == y && (k == .local || k == .cell)) = false := by decide +kernel)
    (hi : IV Z tg iter mi) (ok : BlkOk Z.N Z.sc scope own) (hg : GV (ZB Z scope) tg ix gf) (ht : CV (ZB Z scope) ifs mt)
    (he : EV (ZB Z scope) elt me) (hnd : (own.map (·.2)).Nodup := by decide) (hix : ∀ i ∈ ix, i ∈ own.map (·.2) := by decide) (hs : ∀ env x, foldedSetIterable iter env x = pure x := by intro _ _; rfl) :
    SV Z (.Assign [.Name y py] (.ListComp elt [⟨tg, iter, ifs, 0⟩] scope pos) spos) (mAsgF i (mLc (own.map (·.2)) mi gf mt me)) := by
  obtain ⟨wi, i1, i2⟩ := hi
  obtain ⟨gt, g1, g2⟩ := hg
  obtain ⟨tt, t1, t2⟩ := ht
  obtain ⟨te, e1, e2⟩ := he
  refine ⟨_, fun X k => ps_setLc k.calm k.nd (by rw [k.N]; exact hN) (by rw [k.sc]; exact hy) (sw_true (by rw [k.sc]; exact hk) (by rw [k.sc]; exact hy) hl ha) (i1 X k) (by rw [k.N, k.sc]; exact ok) (fun s H C cl fp => g1 _ (inB k s H C cl fp)) (fun s H C cl fp => t1 _ (inB k s H C cl fp)) (fun s H C cl fp => e1 _ (inB k s H C cl fp)) (hs _), fun g env σ I H D fl R hm k => ?_⟩
  unfold mAsgF at hm
  cases q1 : mLc (own.map (·.2)) mi gf mt me env with
  | none => rw [q1] at hm; cases hm
  | some r =>
    rw [q1] at hm
    simp only [Option.bind_some] at hm
    split at hm
    · rename_i hi
      cases hm
      exact lc_sf (scope := scope) hnd hix i2 g2 t2 e2 g env σ I H _ r.1 r.2 R q1 fun a o I1 H1 R1 s1 n ro => k _ I1 H1 (R1.setOwn (by rw [← R1.len]; exact hi) n ro) s1
    · cases hm
end
end Q
namespace Q
open PySem L2
section
variable {Z : Zc}
/-! ## A def's promise and its call -/
/-- from the arguments' slots to what is handed back -/
def spM (K : PySem.W.Frag) (cl : String → Option Addr) (N : List Str) (np : Nat) (m : MS) : Sp := fun vs H Q _ => vs.length = np ∧
  ∃ (g : G) (env : En) (I : Hp) (fl : Fl), SR K cl g env (start N vs) I H ∧ m env = some fl ∧
    (match fl with
    | .nx env' => ∀ σ' I' H', SR K cl g env' σ' I' H' → Same I I' → Q .non H'
    | .ret md d env' => ∀ σ' I' H' v, SR K cl g env' σ' I' H' → Same I I' → (match md with
      | .imm => Rep K cl I' d v
      | .new => ∃ p o, v = .ref p ∧ New g env' σ' I' H' p o ∧ ObjRep K cl I' d o) → Q v H'
    | _ => False)
/-- a def of the text keeps the promise that its body's meaning gives -/
theorem fn_ok {P : Program} {w : World} {K : PySem.W.Frag} {mg : Str → Option Value} {base : Heap} {cl : String → Option Addr} {x qual : Str} {st : Stmt} {f : Addr} {fd : FuncData} {N ps : List Str} {k : Nat} {m : MS} {me : Option (Addr × Addr)}
    (F : Fun K x qual st f fd) (S : FnScope N ps (defScope st)) (hb : BV ⟨P, w, K, mg, base, N, defScope st, k, cl, true, me⟩ (defBody st) m) (hme : ∀ c P, me = some (c, P) → fd.code = .ref c ∧ GxR.TabB base mg c P ∧ IsTab cl P := by intro _ _ h; cases h) : FnG P w K mg base CX0 (k + 1) f fd ps (spM K cl N ps.length m) := by
  refine fun_okG F S (fun h => h.1) (fun cdv A outer s H vs Q E hcd hr hgd h => ?_)
  obtain ⟨t, b1, b2⟩ := hb
  obtain ⟨hl, g, env, I, fl, R, hm, k'⟩ := h
  refine ⟨t, (b1 _ ⟨rfl, rfl, rfl, rfl, rfl, rfl, rfl, rfl, hr, S.nd, fun _ _ => rfl, PassesOwn.never, hgd, fun c P e => let ⟨h1, h2⟩ := hme c P e; ⟨hcd.symm.trans h1, h2⟩⟩).nox, ?_⟩
  refine b2 g env (start N vs) I H _ fl R hm ?_
  cases fl with
  | nx e => exact fun σ' I' H' R' s => k' σ' I' H' R' s
  | bk e => exact k'.elim
  | ct e => exact k'.elim
  | ret md d e =>
    intro σ' I' H' v R' s hr
    refine k' σ' I' H' v R' s ?_
    cases md with
    | imm => exact hr
    | new => exact hr
/-! ### the call -/
inductive Ag where
  | imm (d : D) | bor (i : Nat) | io (i : Nat)
inductive AgOk (Z : Zc) (I : Hp) (σ : St) : Ag → V → Prop
  | imm {d v} : Rep Z.K Z.cl I d v → AgOk Z I σ (.imm d) v
  | bor {i v} : σ[i]? = some (some v) → AgOk Z I σ (.bor i) v
  | io {i v} : σ[i]? = some (some v) → AgOk Z I σ (.io i) v
inductive AgsOk (Z : Zc) (I : Hp) (σ : St) : List Ag → List V → Prop
  | nil : AgsOk Z I σ [] []
  | cons {a v as vs} : AgOk Z I σ a v → AgsOk Z I σ as vs → AgsOk Z I σ (a :: as) (v :: vs)
theorem AgOk.mono {I I' : Hp} {σ : St} {a : Ag} {v : V} (s : Same I I') (h : AgOk Z I σ a v) : AgOk Z I' σ a v := by
  cases h with
  | imm r => exact .imm (r.mono s)
  | bor h => exact .bor h
  | io h => exact .io h
abbrev MG := En → Option (List Ag × En)
def SG (Z : Zc) (t : TA) (m : MG) : Prop := ∀ (g : G) (env : En) (σ : St) (I H : Hp) (Q : List V → Hp → Prop) (as : List Ag) (env' : En), SR Z.K Z.cl g env σ I H → m env = some (as, env') →
  (∀ vs I' H', SR Z.K Z.cl g env' σ I' H' → Same I I' → AgsOk Z I' σ as vs → Q vs H') → t σ H Q
def AV (Z : Zc) (es : List Expr) (m : MG) : Prop := ∃ t, (∀ X, InF Z X → PA X es t) ∧ SG Z t m
def cNil : MG := fun env => some ([], env)
def cImm (a : ME) (r : MG) : MG := fun env => (a env).bind fun p => (r p.2).map fun q => (.imm p.1 :: q.1, q.2)
def cBor (i : Nat) (r : MG) : MG := fun env => (env[i]?.bind Sl.rd).bind fun _ => (r env).map fun q => (.bor i :: q.1, q.2)
def cIo (i : Nat) (r : MG) : MG := fun env => (env[i]?.bind Sl.own?).bind fun _ => (r env).map fun q => (.io i :: q.1, q.2)
theorem av_nil : AV Z [] cNil := ⟨tNil, fun _ _ => pa_nil, fun g env σ I H Q as env' R hm k => by cases hm; exact k [] I H R (Same.refl _) .nil⟩
theorem av_imm {e : Expr} {es : List Expr} {m : ME} {r : MG} (h : EV Z e m) (hr : AV Z es r) (hs : ∀ env, starEach (e :: es) env = (false, eval e env) :: starEach es env := by intro _; rfl) : AV Z (e :: es) (cImm m r) := by
  obtain ⟨t, h1, h2⟩ := h
  obtain ⟨u, r1, r2⟩ := hr
  refine ⟨_, fun X i => pa_cons (h1 X i) (r1 X i) (hs _), fun g env σ I H Q as env' R hm k => ?_⟩
  unfold cImm at hm
  cases e1 : m env with
  | none => rw [e1] at hm; cases hm
  | some p =>
    rw [e1] at hm
    simp only [Option.bind_some] at hm
    cases e2 : r p.2 with
    | none => rw [e2] at hm; cases hm
    | some q =>
      rw [e2] at hm; cases hm
      refine h2 g env σ I H _ p.1 p.2 R e1 fun v I1 H1 R1 s1 rv => ?_
      exact r2 g p.2 σ I1 H1 _ q.1 q.2 R1 e2 fun vs I2 H2 R2 s2 rs => k (v :: vs) I2 H2 R2 (s1.trans s2) (.cons (.imm (rv.mono s2)) rs)
theorem av_bor {i : Nat} {x : Str} {p : Pos} {es : List Expr} {r : MG} (hN : Z.N[i]? = some x) (hv : Vis Z.sc x) (hr : AV Z es r) (hd : (x == ("__debug__" : Str)) = false := by decide) (hcd : (x == ("__classdict__" : Str)) = false := by decide)
    (hs : ∀ env, starEach (.Name x p :: es) env = (false, eval (.Name x p) env) :: starEach es env := by intro _; rfl) : AV Z (.Name x p :: es) (cBor i r) := by
  obtain ⟨u, r1, r2⟩ := hr
  refine ⟨_, fun X h => pa_cons (pe_var (by rw [h.N]; exact hN) (visOf h hv) hd hcd) (r1 X h) (hs _), fun g env σ I H Q as env' R hm k => ?_⟩
  unfold cBor at hm
  cases e1 : env[i]?.bind Sl.rd with
  | none => rw [e1] at hm; cases hm
  | some d =>
    rw [e1] at hm
    simp only [Option.bind_some] at hm
    cases e2 : r env with
    | none => rw [e2] at hm; cases hm
    | some q =>
      rw [e2] at hm; cases hm
      obtain ⟨v, hv⟩ := rd_at R e1
      exact ⟨v, hv, r2 g env σ I H _ q.1 q.2 R e2 fun vs I2 H2 R2 s2 rs => k (v :: vs) I2 H2 R2 s2 (.cons (.bor hv) rs)⟩
theorem av_io {i : Nat} {x : Str} {p : Pos} {es : List Expr} {r : MG} (hN : Z.N[i]? = some x) (hv : Vis Z.sc x) (hr : AV Z es r) (hd : (x == ("__debug__" : Str)) = false := by decide) (hcd : (x == ("__classdict__" : Str)) = false := by decide)
    (hs : ∀ env, starEach (.Name x p :: es) env = (false, eval (.Name x p) env) :: starEach es env := by intro _; rfl) : AV Z (.Name x p :: es) (cIo i r) := by
  obtain ⟨u, r1, r2⟩ := hr
  refine ⟨_, fun X h => pa_cons (pe_var (by rw [h.N]; exact hN) (visOf h hv) hd hcd) (r1 X h) (hs _), fun g env σ I H Q as env' R hm k => ?_⟩
  unfold cIo at hm
  cases e1 : env[i]? with
  | none => rw [e1] at hm; cases hm
  | some s =>
    rw [e1] at hm
    simp only [Option.bind_some] at hm
    cases e3 : s.own? with
    | none => rw [e3] at hm; cases hm
    | some d =>
      rw [e3] at hm
      simp only [Option.bind_some] at hm
      cases e2 : r env with
      | none => rw [e2] at hm; cases hm
      | some q =>
        rw [e2] at hm; cases hm
        obtain ⟨a, o, hv, _⟩ := own_at R e1 e3
        exact ⟨_, hv, r2 g env σ I H _ q.1 q.2 R e2 fun vs I2 H2 R2 s2 rs => k (_ :: vs) I2 H2 R2 s2 (.cons (.io hv) rs)⟩
/-- the callee's slots -/
def Ag.slot (env : En) (n : Nat) : Ag → Option Sl
  | .imm d => some (.imm d)
  | .bor i => match env[i]? with
    | some (.imm d) => some (.imm d)
    | some s => s.rd.map .bor
    | none => none
  | .io i => (env[i]?.bind Sl.own?).map fun d => .io n d
def Ag.ioOf : Ag → Option Nat
  | .io i => some i
  | _ => none
def slotsOf (env : En) : Nat → List Ag → Option (List Sl)
  | _, [] => some []
  | n, a :: as => (a.slot env n).bind fun s => (slotsOf env (n + (if a.ioOf.isSome then 1 else 0)) as).map fun r => s :: r
def iosOf (as : List Ag) : List Nat := as.filterMap Ag.ioOf
def borsOf (as : List Ag) : List Nat := as.filterMap fun a => match a with
  | .bor i => some i
  | _ => none
/-- each changed object comes once, and is not read beside -/
def apart (as : List Ag) : Bool := decide (iosOf as).Nodup && (borsOf as).all fun i => decide (i ∉ iosOf as)
/-- what the callee has made of the changed objects -/
def backIo (cenv : En) : Nat → List Nat → List Nat → En → Option En
  | _, [], _, env => some env
  | n, i :: is, j :: js, env => match cenv[j]? with
    | some (.io n' d) => if n' = n then backIo cenv (n + 1) is js (putS env i d) else none
    | _ => none
  | _, _, _, _ => none
def ioPlaces : Nat → List Ag → List Nat
  | _, [] => []
  | n, a :: as => if a.ioOf.isSome then n :: ioPlaces (n + 1) as else ioPlaces (n + 1) as
def mCall (N : List Str) (mf : MS) (a : MG) : En → Option (Md × D × En) := fun env => (a env).bind fun p => if apart p.1 = true then (slotsOf p.2 0 p.1).bind fun ss =>
  (mf (ss ++ List.replicate (N.length - ss.length) .un)).bind fun fl => match fl with
    | .nx cenv => (backIo cenv 0 (iosOf p.1) (ioPlaces 0 p.1) p.2).map fun e => (.imm, .non, e)
    | .ret md d cenv => (backIo cenv 0 (iosOf p.1) (ioPlaces 0 p.1) p.2).map fun e => (md, d, e)
    | _ => none
  else none
def addrAt (σ : St) (i : Nat) : Addr := match σ[i]? with
  | some (some (.ref a)) => a
  | _ => 0
theorem addrAt_eq {σ : St} {i : Nat} {a : Addr} (h : σ[i]? = some (some (.ref a))) : addrAt σ i = a := by unfold addrAt; rw [h]
theorem own_top {s : Sl} {d : D} (h : s.own? = some d) : s.mut = true ∧ s.top = true := by cases s <;> first | exact ⟨rfl, rfl⟩ | cases h
theorem put_flags (s : Sl) (d : D) : (s.put d).mut = s.mut ∧ (s.put d).top = s.top := by cases s <;> exact ⟨rfl, rfl⟩
/-- how the caller's slots stand behind -/
def Behind (Z : Zc) (σ : St) (Ic Hc : Hp) (is : List Nat) (env env' : En) : Prop := env'.length = env.length ∧ ∀ (i : Nat) (s' : Sl), env'[i]? = some s' →
  (i ∉ is ∧ env[i]? = some s') ∨ (i ∈ is ∧ ∃ s d, env[i]? = some s ∧ s.own?.isSome = true ∧ s' = s.put d ∧ ∃ o, Hc (addrAt σ i) = some o ∧ ObjRep Z.K Z.cl Ic d o)
theorem SR.after {g : G} {env env' : En} {σ : St} {I H Ic Hc : Hp} {is : List Nat} (R : SR Z.K Z.cl g env σ I H) (his : ∀ i ∈ is, ∃ s d, env[i]? = some s ∧ s.own? = some d)
    (hI : Same I Ic) (hsub : Same Ic Hc) (hB0 : ∀ a o, H a = some o → a ∉ is.map (addrAt σ) → ¬ IsTab Z.cl a → Hc a = some o) (hT : ∀ a, IsTab Z.cl a → GxR.TabG Hc a) (hC : ∀ a o, H a = some o → I a = none → Ic a = none)
    (hD : ∀ a ∈ is.map (addrAt σ), ∃ o, Hc a = some o) (hE : Behind Z σ Ic Hc is env env') : SR Z.K Z.cl g env' σ Ic Hc := by
  have hB : ∀ {a : Addr} {o : HO} {d : D} {J : Hp}, H a = some o → a ∉ is.map (addrAt σ) → ObjRep Z.K Z.cl J d o → Hc a = some o := fun h n r => hB0 _ _ h n (R.noTab h r)
  -- a changed object's address is of a slot
  have adr : ∀ a ∈ is.map (addrAt σ), ∃ i s d o, i ∈ is ∧ env[i]? = some s ∧ s.own? = some d ∧ σ[i]? = some (some (.ref a)) ∧ H a = some o ∧ I a = none := fun a ha => by
    obtain ⟨i, hi, rfl⟩ := List.mem_map.mp ha
    obtain ⟨s, d, h1, h2⟩ := his i hi
    obtain ⟨b, o, h3, h4, h5, h6⟩ := own_at R h1 h2
    rw [addrAt_eq h3]
    exact ⟨i, s, d, o, hi, h1, h2, h3, h4, h6⟩
  have flags : ∀ (i : Nat) (s' : Sl), env'[i]? = some s' → ∃ s, env[i]? = some s ∧ s'.mut = s.mut ∧ s'.top = s.top := fun i s' h => by
    rcases hE.2 i s' h with ⟨_, h1⟩ | ⟨_, s, d, h1, _, rfl, _⟩
    · exact ⟨s', h1, rfl, rfl⟩
    · exact ⟨s, h1, put_flags s d⟩
  have other : ∀ (i : Nat) (s : Sl) (a : Addr), i ∉ is → env[i]? = some s → s.top = true → σ[i]? = some (some (.ref a)) → a ∉ is.map (addrAt σ) := fun i s a hi h1 h2 h3 ha => by
    obtain ⟨j, s2, d, o, hj, h4, h5, h6, _⟩ := adr a ha
    exact R.dis j i s2 s a (fun z => hi (by rw [← z]; exact hj)) h4 h1 (own_top h5).1 h2 h6 h3
  refine ⟨hsub, R.i0.trans hI, fun a o h1 h2 h9 => ?_, fun a o h1 h2 => ?_, fun a ha => ?_, by rw [hE.1]; exact R.len, fun i s' h => ?_, fun i j s s' a hne h1 h2 m1 m2 => ?_, fun a o hx => ?_, R.ex0, fun a ht => ?_⟩
  rotate_right
  · obtain ⟨t1, ⟨ps, t2, t3⟩, t4⟩ := R.tb a ht
    exact ⟨hC a _ t2 t1, hT a ht, t4⟩
  · refine hB0 a o (R.h0 a o h1 h2 h9) (fun ha => ?_) h9
    obtain ⟨i, s, d, o2, _, q1, q2, q3, q4, q5⟩ := adr a ha
    obtain ⟨x, hx, q⟩ := R.at_ i s q1
    rw [q3] at hx; cases hx
    cases s with
    | own d' => obtain ⟨b, v, e, _, _, _, h4⟩ := q; cases e; rw [h4] at h1; cases h1
    | io k d' => obtain ⟨b, v, e, h0, _⟩ := q; cases e; exact h2 (List.mem_of_getElem? h0)
    | un => cases q2
    | imm => cases q2
    | bor => cases q2
    | lck => cases q2
  · by_cases hO : a ∈ g.O
    · obtain ⟨⟨o2, q1⟩, q2, _⟩ := R.oh a hO
      exact hC a o2 q1 q2
    · by_cases ht : IsTab Z.cl a
      · obtain ⟨t1, ⟨ps, t2, t3⟩, t4⟩ := R.tb a ht
        exact hC a _ t2 t1
      · exact hC a o (R.h0 a o h1 hO ht) (R.hi a o h1 h2)
  · obtain ⟨⟨o, q1⟩, q2, q3⟩ := R.oh a ha
    refine ⟨?_, hC a o q1 q2, q3⟩
    by_cases h : a ∈ is.map (addrAt σ)
    · exact hD a h
    · by_cases ht : IsTab Z.cl a
      · obtain ⟨ps, t2, t3⟩ := hT a ht
        exact ⟨_, t2⟩
      · exact ⟨o, hB0 a o q1 h ht⟩
  · rcases hE.2 i s' h with ⟨hi, h1⟩ | ⟨hi, s, d, h1, h2, rfl, o, h3, h4⟩
    · obtain ⟨x, hx, q⟩ := R.at_ i s' h1
      refine ⟨x, hx, ?_⟩
      cases s' with
      | un => trivial
      | imm d => obtain ⟨v, rfl, r⟩ := q; exact ⟨v, rfl, r.mono hI⟩
      | bor d => obtain ⟨a, rfl, o, q1, q2⟩ := q; exact ⟨a, rfl, o, hB q1 (other i _ a hi h1 rfl hx) q2, q2.mono hI⟩
      | own d => obtain ⟨a, o, rfl, q1, q2, q3, q4⟩ := q; exact ⟨a, o, rfl, hB q1 (other i _ a hi h1 rfl hx) q2, q2.mono hI, hC a o q1 q3, q4⟩
      | lck d => obtain ⟨a, o, rfl, q1, q2, q3, q4⟩ := q; exact ⟨a, o, rfl, hB q1 (other i _ a hi h1 rfl hx) q2, q2.mono hI, hC a o q1 q3, q4⟩
      | io k d => obtain ⟨a, o, rfl, q0, q1, q2⟩ := q; exact ⟨a, o, rfl, q0, hB q1 (other i _ a hi h1 rfl hx) q2, q2.mono hI⟩
    · obtain ⟨x, hx, q⟩ := R.at_ i s h1
      refine ⟨x, hx, ?_⟩
      cases s with
      | own d' =>
        obtain ⟨a, v, rfl, q1, q2, q3, q4⟩ := q
        rw [addrAt_eq hx] at h3
        exact ⟨a, o, rfl, h3, h4, hC a v q1 q3, q4⟩
      | io k d' =>
        obtain ⟨a, v, rfl, q0, q1, q2⟩ := q
        rw [addrAt_eq hx] at h3
        exact ⟨a, o, rfl, q0, h3, h4⟩
      | un => cases h2
      | imm => cases h2
      | bor => cases h2
      | lck => cases h2
  · obtain ⟨t, e1, f1, _⟩ := flags i s h1
    obtain ⟨t', e2, _, f2⟩ := flags j s' h2
    exact R.dis i j t t' a hne e1 e2 (by rw [← f1]; exact m1) (by rw [← f2]; exact m2)
  · obtain ⟨q1, q2, q3⟩ := R.ex a o hx
    have nt : ¬ IsTab Z.cl a := fun t => by
      obtain ⟨_, _, v, t4⟩ := R.tb a t
      rw [R.ex0 a o hx] at t4; cases t4
    refine ⟨hB0 a o q1 (fun ha => ?_) nt, hC a o q1 q2, fun i s h ht => ?_⟩
    · obtain ⟨i, s, d, o2, _, e1, e2, e3, _⟩ := adr a ha
      exact q3 i s e1 (own_top e2).2 e3
    · obtain ⟨t, e1, _, f1⟩ := flags i s h
      exact q3 i t e1 (by rw [← f1]; exact ht)
theorem putS_get {env : En} {i j : Nat} {d : D} {s : Sl} (h : (putS env i d)[j]? = some s) : (j ≠ i ∧ env[j]? = some s) ∨ (j = i ∧ ∃ s0, env[i]? = some s0 ∧ s = s0.put d) := by
  unfold putS at h
  cases e : env[i]? with
  | none =>
    rw [e] at h
    by_cases hj : j = i
    · subst hj; rw [e] at h; cases h
    · exact .inl ⟨hj, h⟩
  | some s0 =>
    rw [e] at h
    rcases set_get h with ⟨rfl, _, rfl⟩ | ⟨n, h⟩
    · exact .inr ⟨rfl, s0, rfl, rfl⟩
    · exact .inl ⟨n, h⟩
theorem putS_length (env : En) (i : Nat) (d : D) : (putS env i d).length = env.length := by
  unfold putS
  split <;> simp
theorem back_ok {g' : G} {cenv : En} {σc : St} {σ : St} {Ic Hc : Hp} (Rc : SR Z.K Z.cl g' cenv σc Ic Hc) : ∀ (n : Nat) (is js : List Nat) (env env' : En), is.Nodup → backIo cenv n is js env = some env' →
    (∀ i ∈ is, ∃ s d, env[i]? = some s ∧ s.own? = some d) → (∀ k i, is[k]? = some i → g'.O[n + k]? = some (addrAt σ i)) → Behind Z σ Ic Hc is env env'
  | n, [], js, env, env', _, h, _, _ => by
    unfold backIo at h
    cases h
    exact ⟨rfl, fun i s h => .inl ⟨by simp, h⟩⟩
  | n, i :: is, [], env, env', _, h, _, _ => by unfold backIo at h; cases h
  | n, i :: is, j :: js, env, env', hnd, h, hown, hO => by
    unfold backIo at h
    split at h
    · rename_i n' d hj
      split at h
      · rename_i hn
        subst hn
        obtain ⟨hi, hnd2⟩ := List.nodup_cons.mp hnd
        have ih := back_ok Rc (n' + 1) is js (putS env i d) env' hnd2 h (fun k hk => by
          obtain ⟨s, d', h1, h2⟩ := hown k (List.mem_cons_of_mem _ hk)
          have hne : k ≠ i := fun z => hi (by rw [← z]; exact hk)
          refine ⟨s, d', ?_, h2⟩
          unfold putS
          split
          · rw [List.getElem?_set_ne (Ne.symm hne)]; exact h1
          · exact h1) (fun k q hq => by have := hO (k + 1) q (by simpa using hq); rw [← this]; congr 1; omega)
        obtain ⟨hl, hb⟩ := ih
        obtain ⟨x, hx, a, o, rfl, q0, q1, q2⟩ := Rc.at_ j _ hj
        have ha : a = addrAt σ i := by
          have := hO 0 i rfl
          rw [Nat.add_zero] at this
          rw [this] at q0
          exact (Option.some.inj q0).symm
        refine ⟨by rw [hl, putS_length], fun k s' hk => ?_⟩
        rcases hb k s' hk with ⟨h1, h2⟩ | ⟨h1, s, d2, h2, h3, h4, h5⟩
        · rcases putS_get h2 with ⟨hne, f2⟩ | ⟨hki, s0, f2, f3⟩
          · exact .inl ⟨by simp [hne, h1], f2⟩
          · obtain ⟨s, d', e1, e2⟩ := hown i List.mem_cons_self
            rw [f2] at e1; cases e1
            refine .inr ⟨by simp [hki], s0, d, by rw [hki]; exact f2, by rw [e2]; rfl, f3, o, by rw [hki, ← ha]; exact q1, q2⟩
        · have hne : k ≠ i := fun z => hi (by rw [← z]; exact h1)
          rcases putS_get h2 with ⟨_, f2⟩ | ⟨z, _⟩
          · exact .inr ⟨List.mem_cons_of_mem _ h1, s, d2, f2, h3, h4, h5⟩
          · exact absurd z hne
      · cases h
    · cases h
theorem slotsOf_length {env : En} : ∀ {as : List Ag} {n : Nat} {ss : List Sl}, slotsOf env n as = some ss → ss.length = as.length
  | [], n, ss, h => by cases h; rfl
  | a :: as, n, ss, h => by
    unfold slotsOf at h
    cases e1 : a.slot env n with
    | none => rw [e1] at h; cases h
    | some s =>
      rw [e1] at h; simp only [Option.bind_some] at h
      cases e2 : slotsOf env (n + (if a.ioOf.isSome then 1 else 0)) as with
      | none => rw [e2] at h; cases h
      | some r => rw [e2] at h; cases h; simp [slotsOf_length e2]
/-- the k-th slot of the callee: of which argument -/
theorem slotsOf_get {env : En} : ∀ {as : List Ag} {n : Nat} {ss : List Sl} {k : Nat} {s : Sl}, slotsOf env n as = some ss → ss[k]? = some s → ∃ a, as[k]? = some a ∧ a.slot env (n + (iosOf (as.take k)).length) = some s
  | [], n, ss, k, s, h, hk => by cases h; simp at hk
  | a :: as, n, ss, k, s, h, hk => by
    unfold slotsOf at h
    cases e1 : a.slot env n with
    | none => rw [e1] at h; cases h
    | some s1 =>
      rw [e1] at h; simp only [Option.bind_some] at h
      cases e2 : slotsOf env (n + (if a.ioOf.isSome then 1 else 0)) as with
      | none => rw [e2] at h; cases h
      | some r =>
        rw [e2] at h; cases h
        cases k with
        | zero => cases hk; exact ⟨a, rfl, by simpa [iosOf] using e1⟩
        | succ k =>
          obtain ⟨b, h1, h2⟩ := slotsOf_get e2 (by simpa using hk)
          refine ⟨b, by simpa using h1, ?_⟩
          have : n + (iosOf ((a :: as).take (k + 1))).length = n + (if a.ioOf.isSome then 1 else 0) + (iosOf (as.take k)).length := by
            rw [List.take_succ_cons]
            unfold iosOf
            rw [List.filterMap_cons]
            cases a.ioOf with
            | none => simp
            | some i => simp; omega
          rw [this]; exact h2
theorem iosOf_at : ∀ {as : List Ag} {k i : Nat}, as[k]? = some (.io i) → (iosOf as)[(iosOf (as.take k)).length]? = some i
  | [], k, i, h => by simp at h
  | a :: as, 0, i, h => by simp at h; subst h; simp [iosOf, Ag.ioOf]
  | a :: as, k + 1, i, h => by
    have ih := iosOf_at (as := as) (k := k) (i := i) (by simpa using h)
    rw [List.take_succ_cons]
    unfold iosOf at ih ⊢
    rw [List.filterMap_cons, List.filterMap_cons]
    cases a.ioOf with
    | none => exact ih
    | some j => simpa using ih
theorem AgsOk.get {I : Hp} {σ : St} : ∀ {as : List Ag} {vs : List V} {k : Nat} {a : Ag}, AgsOk Z I σ as vs → as[k]? = some a → ∃ v, vs[k]? = some v ∧ AgOk Z I σ a v
  | _, _, k, _, .nil, h => by simp at h
  | _, _, 0, _, .cons o os, h => by simp at h; subst h; exact ⟨_, rfl, o⟩
  | _, _, k + 1, _, .cons o os, h => by
    obtain ⟨v, h1, h2⟩ := AgsOk.get (k := k) os (by simpa using h)
    exact ⟨v, by simpa using h1, h2⟩
theorem AgsOk.length {I : Hp} {σ : St} : ∀ {as : List Ag} {vs : List V}, AgsOk Z I σ as vs → as.length = vs.length
  | _, _, .nil => rfl
  | _, _, .cons _ os => by simp [AgsOk.length os]
theorem mCall_inv {N : List Str} {mf : MS} {a : MG} {env : En} {md : Md} {d : D} {e : En} (h : mCall N mf a env = some (md, d, e)) :
    ∃ as e1 ss fl cenv, a env = some (as, e1) ∧ apart as = true ∧ slotsOf e1 0 as = some ss ∧ mf (ss ++ List.replicate (N.length - ss.length) .un) = some fl ∧ backIo cenv 0 (iosOf as) (ioPlaces 0 as) e1 = some e ∧
      ((fl = .nx cenv ∧ md = .imm ∧ d = .non) ∨ fl = .ret md d cenv) := by
  unfold mCall at h
  cases q1 : a env with
  | none => rw [q1] at h; cases h
  | some p =>
    rw [q1] at h; simp only [Option.bind_some] at h
    split at h
    · rename_i hap
      cases q2 : slotsOf p.2 0 p.1 with
      | none => rw [q2] at h; cases h
      | some ss =>
        rw [q2] at h; simp only [Option.bind_some] at h
        cases q3 : mf (ss ++ List.replicate (N.length - ss.length) .un) with
        | none => rw [q3] at h; cases h
        | some fl =>
          rw [q3] at h; simp only [Option.bind_some] at h
          cases fl with
          | nx cenv =>
            dsimp only at h
            cases q4 : backIo cenv 0 (iosOf p.1) (ioPlaces 0 p.1) p.2 with
            | none => rw [q4] at h; cases h
            | some e2 => rw [q4] at h; cases h; exact ⟨_, _, ss, _, cenv, rfl, hap, q2, q3, q4, .inl ⟨rfl, rfl, rfl⟩⟩
          | ret md' d' cenv =>
            dsimp only at h
            cases q4 : backIo cenv 0 (iosOf p.1) (ioPlaces 0 p.1) p.2 with
            | none => rw [q4] at h; cases h
            | some e2 => rw [q4] at h; cases h; exact ⟨_, _, ss, _, cenv, rfl, hap, q2, q3, q4, .inr rfl⟩
          | bk => cases h
          | ct => cases h
    · cases h
/-- the callee's state at its entry -/
theorem callee {g : G} {env : En} {σ : St} {I H : Hp} {as : List Ag} {vs : List V} {ss : List Sl} {N : List Str} (R : SR Z.K Z.cl g env σ I H) (ho : AgsOk Z I σ as vs) (hap : apart as = true) (hss : slotsOf env 0 as = some ss) :
    (∀ i ∈ iosOf as, ∃ s d, env[i]? = some s ∧ s.own? = some d) ∧ SR Z.K Z.cl ⟨I, H, (iosOf as).map (addrAt σ), []⟩ (ss ++ List.replicate (N.length - ss.length) .un) (start N vs) I H := by
  unfold apart at hap
  rw [Bool.and_eq_true] at hap
  obtain ⟨hnd, hbor⟩ := hap
  have hnd := of_decide_eq_true hnd
  have own : ∀ i ∈ iosOf as, ∃ s d, env[i]? = some s ∧ s.own? = some d := fun i hi => by
    unfold iosOf at hi
    obtain ⟨a, ha, hai⟩ := List.mem_filterMap.mp hi
    obtain ⟨k, hk⟩ := List.getElem?_of_mem ha
    have hkl : k < ss.length := by rw [slotsOf_length hss]; exact (List.getElem?_eq_some_iff.mp hk).1
    obtain ⟨b, h1, h2⟩ := slotsOf_get hss (List.getElem?_eq_getElem hkl)
    rw [hk] at h1; cases h1
    cases a <;> first | (cases hai) | cases hai
    unfold Ag.slot at h2
    dsimp only at h2
    cases e : env[i]? with
    | none => rw [e] at h2; cases h2
    | some s =>
      rw [e] at h2
      simp only [Option.bind_some] at h2
      cases e2 : s.own? with
      | none => rw [e2] at h2; cases h2
      | some d => exact ⟨s, d, rfl, e2⟩
  refine ⟨own, R.sub, Same.refl _, fun a o h _ _ => h, fun a o _ h => h, fun a ha => ?_, ?_, fun k s hk => ?_, fun j k s s' a hne hj hk m1 m2 => ?_, (fun a o h => by cases h), (fun a o h => by cases h), fun a ht => let ⟨t1, t2, _⟩ := R.tb a ht; ⟨t1, t2, let ⟨ps, h, _⟩ := t2; ⟨_, h⟩⟩⟩
  · obtain ⟨i, hi, rfl⟩ := List.mem_map.mp ha
    obtain ⟨s, d, h1, h2⟩ := own i hi
    obtain ⟨b, o, h3, h4, h5, h6⟩ := own_at R h1 h2
    rw [addrAt_eq h3]
    exact ⟨⟨o, h4⟩, h6, o, h4⟩
  · unfold L2.start
    rw [List.length_append, List.length_append, List.length_replicate, List.length_replicate, List.length_map, slotsOf_length hss, ho.length]
  · by_cases hkl : k < ss.length
    · rw [List.getElem?_append_left hkl] at hk
      obtain ⟨a, h1, h2⟩ := slotsOf_get hss hk
      obtain ⟨v, h3, h4⟩ := ho.get h1
      refine ⟨some v, ?_, ?_⟩
      · unfold L2.start
        rw [List.getElem?_append_left (by rw [List.length_map, ← ho.length, ← slotsOf_length hss]; exact hkl), List.getElem?_map, h3]; rfl
      · cases h4 with
        | imm r => cases h2; exact ⟨v, rfl, r⟩
        | bor hv =>
          rename_i i
          unfold Ag.slot at h2
          dsimp only at h2
          split at h2
          · rename_i d e
            cases h2
            obtain ⟨x, hx, u, rfl, r⟩ := R.at_ i _ e
            rw [hv] at hx; cases hx
            exact ⟨v, rfl, r⟩
          · rename_i s0 hno e
            obtain ⟨x, hx, q⟩ := R.at_ i _ e
            rw [hv] at hx; cases hx
            cases s0 with
            | un => cases h2
            | imm d => exact absurd rfl (hno d)
            | bor d => cases h2; obtain ⟨b, e2, t⟩ := q; cases e2; exact ⟨b, rfl, t⟩
            | own d => cases h2; obtain ⟨b, o, e2, q1, q2, _⟩ := q; cases e2; exact ⟨b, rfl, o, q1, q2⟩
            | lck d => cases h2; obtain ⟨b, o, e2, q1, q2, _⟩ := q; cases e2; exact ⟨b, rfl, o, q1, q2⟩
            | io n d => cases h2; obtain ⟨b, o, e2, _, q1, q2⟩ := q; cases e2; exact ⟨b, rfl, o, q1, q2⟩
          · cases h2
        | io hv =>
          rename_i i
          unfold Ag.slot at h2
          dsimp only at h2
          cases e : env[i]? with
          | none => rw [e] at h2; cases h2
          | some s0 =>
            rw [e] at h2
            simp only [Option.bind_some] at h2
            cases e2 : s0.own? with
            | none => rw [e2] at h2; cases h2
            | some d =>
              rw [e2] at h2; cases h2
              obtain ⟨b, o, h5, h6, h7, h8⟩ := own_at R e e2
              rw [hv] at h5; cases h5
              refine ⟨b, o, rfl, ?_, h6, h7⟩
              have := iosOf_at h1
              rw [Nat.zero_add, List.getElem?_map, this]
              show some (addrAt σ i) = some b
              rw [addrAt_eq hv]
    · rw [List.getElem?_append_right (by omega), List.getElem?_replicate] at hk
      split at hk
      · rename_i hlt
        cases hk
        refine ⟨none, ?_, trivial⟩
        unfold L2.start
        have e1 := ho.length
        have e2 := slotsOf_length hss
        rw [List.getElem?_append_right (by rw [List.length_map]; omega), List.getElem?_replicate, List.length_map, if_pos (by omega)]
      · cases hk
  · -- two slots at one address
    intro q1 q2
    have low : ∀ (k : Nat) (s : Sl), (ss ++ List.replicate (N.length - ss.length) Sl.un)[k]? = some s → s.top = true → (start N vs)[k]? = some (some (.ref a)) →
        ∃ i ag t, as[k]? = some ag ∧ (ag = .bor i ∨ ag = .io i) ∧ env[i]? = some t ∧ t.top = true ∧ σ[i]? = some (some (.ref a)) ∧ (s.mut = true → ag = .io i ∧ t.mut = true) := fun k s hk ht hv => by
      by_cases hkl : k < ss.length
      · rw [List.getElem?_append_left hkl] at hk
        obtain ⟨ag, h1, h2⟩ := slotsOf_get hss hk
        obtain ⟨v, h3, h4⟩ := ho.get h1
        have hv2 : v = .ref a := by
          unfold L2.start at hv
          rw [List.getElem?_append_left (by rw [List.length_map, ← ho.length, ← slotsOf_length hss]; exact hkl), List.getElem?_map, h3] at hv
          cases hv; rfl
        subst hv2
        cases h4 with
        | imm r => cases h2; cases ht
        | bor hv3 =>
          rename_i i
          unfold Ag.slot at h2
          dsimp only at h2
          split at h2
          · cases h2; cases ht
          · rename_i s0 hno e
            refine ⟨i, _, s0, h1, .inl rfl, e, ?_, hv3, fun hm => ?_⟩
            · cases s0 <;> first | rfl | (exact absurd rfl (hno _)) | cases h2
            · cases s0 <;> first | (cases h2; cases hm) | cases h2 | (exact absurd rfl (hno _))
          · cases h2
        | io hv3 =>
          rename_i i
          unfold Ag.slot at h2
          dsimp only at h2
          cases e : env[i]? with
          | none => rw [e] at h2; cases h2
          | some s0 =>
            rw [e] at h2
            simp only [Option.bind_some] at h2
            cases e2 : s0.own? with
            | none => rw [e2] at h2; cases h2
            | some d => exact ⟨i, _, s0, h1, .inr rfl, e, (own_top e2).2, hv3, fun _ => ⟨rfl, (own_top e2).1⟩⟩
      · rw [List.getElem?_append_right (by omega), List.getElem?_replicate] at hk
        split at hk
        · cases hk; cases ht
        · cases hk
    have m1t : s.top = true := by cases s <;> first | rfl | cases m1
    obtain ⟨i, ag, t, f1, f2, f3, f4, f5, f6⟩ := low j s hj m1t q1
    obtain ⟨i', ag', t', k1, k2, k3, k4, k5, k6⟩ := low k s' hk m2 q2
    obtain ⟨f7, f8⟩ := f6 m1
    subst f7
    by_cases hii : i = i'
    · subst hii
      have him : i ∈ iosOf as := List.mem_filterMap.mpr ⟨_, List.mem_of_getElem? f1, rfl⟩
      rcases k2 with k2 | k2
      · subst k2
        have hb : i ∈ borsOf as := List.mem_filterMap.mpr ⟨_, List.mem_of_getElem? k1, rfl⟩
        exact of_decide_eq_true (List.all_eq_true.mp hbor i hb) him
      · subst k2
        have p1 := iosOf_at f1
        have p2 := iosOf_at k1
        have p3 : (iosOf (as.take j)).length = (iosOf (as.take k)).length := by
          obtain ⟨l1, e1⟩ := List.getElem?_eq_some_iff.mp p1
          obtain ⟨l2, e2⟩ := List.getElem?_eq_some_iff.mp p2
          exact (List.getElem_inj hnd).mp (e1.trans e2.symm)
        have cnt : ∀ (a b : Nat), a < b → as[a]? = some (.io i) → (iosOf (as.take a)).length < (iosOf (as.take b)).length := fun a b hab ha => by
          have hal := (List.getElem?_eq_some_iff.mp ha)
          have e1 : as.take b = as.take a ++ (as.drop a).take (b - a) := by
            rw [← List.take_add]; congr 1; omega
          obtain ⟨hal, hae⟩ := hal
          have e2 : as.drop a = .io i :: as.drop (a + 1) := by rw [← hae]; exact List.drop_eq_getElem_cons hal
          rw [e1, e2]
          obtain ⟨c, hc⟩ : ∃ c, b - a = c + 1 := ⟨b - a - 1, by omega⟩
          rw [hc, List.take_succ_cons]
          unfold iosOf
          rw [List.filterMap_append, List.length_append, List.filterMap_cons]
          show _ < _ + (i :: _).length
          rw [List.length_cons]
          omega
        rcases Nat.lt_trichotomy j k with h | h | h
        · have := cnt j k h f1; omega
        · exact hne h
        · have := cnt k j h k1; omega
    · exact R.dis i i' t t' a hii f3 k3 f8 k4 f5 k5
end
section
variable {Z : Zc}
/-- the promise, called -/
theorem call_post {g : G} {env : En} {σ : St} {I H : Hp} {as : List Ag} {vs : List V} {ss : List Sl} {N : List Str} {np : Nat} {mf : MS} {fl : Fl} {cenv env' : En} {md : Md} {d : D} {Q : VK} {E : XK}
    (R : SR Z.K Z.cl g env σ I H) (ho : AgsOk Z I σ as vs) (hap : apart as = true) (hss : slotsOf env 0 as = some ss) (hm : mf (ss ++ List.replicate (N.length - ss.length) .un) = some fl) (hb : backIo cenv 0 (iosOf as) (ioPlaces 0 as) env = some env')
    (hfl : (fl = .nx cenv ∧ md = .imm ∧ d = .non) ∨ fl = .ret md d cenv) (hnp : as.length = np)
    (k : ∀ Ic Hc v, SR Z.K Z.cl g env' σ Ic Hc → Same I Ic → RetOk Z g env' σ Ic Hc md d v → Q v Hc) : spM Z.K Z.cl N np mf vs H Q E := by
  obtain ⟨own, Rc⟩ := callee (N := N) R ho hap hss
  refine ⟨by rw [← ho.length]; exact hnp, _, _, I, fl, Rc, hm, ?_⟩
  have hap' := hap
  unfold apart at hap'
  rw [Bool.and_eq_true] at hap'
  have hnd := of_decide_eq_true hap'.1
  have fin : ∀ (σ' : St) (Ic Hc : Hp), SR Z.K Z.cl ⟨I, H, (iosOf as).map (addrAt σ), []⟩ cenv σ' Ic Hc → Same I Ic → SR Z.K Z.cl g env' σ Ic Hc := fun σ' Ic Hc Rd s => by
    refine R.after own s Rd.sub (fun a o h1 h2 h3 => Rd.h0 a o h1 h2 h3) (fun a ht => (Rd.tb a ht).2.1) (fun a o h1 h2 => Rd.hi a o h1 h2) (fun a ha => (Rd.oh a ha).1) ?_
    exact back_ok Rd 0 (iosOf as) (ioPlaces 0 as) env env' hnd hb own fun k i hk => by rw [Nat.zero_add, List.getElem?_map, hk]; rfl
  have newB : ∀ (σ' : St) (Ic Hc : Hp) (p : Addr) (o : HO), SR Z.K Z.cl ⟨I, H, (iosOf as).map (addrAt σ), []⟩ cenv σ' Ic Hc → SR Z.K Z.cl g env' σ Ic Hc → New ⟨I, H, (iosOf as).map (addrAt σ), []⟩ cenv σ' Ic Hc p o → New g env' σ Ic Hc p o := fun σ' Ic Hc p o Rd Rf n => by
    have hp : H p = none := n.h0
    refine ⟨n.at_, n.i, R.fresh0 hp, fun i s h ht => ?_, fun o' hx => by have := (R.ex p o' hx).1; rw [hp] at this; cases this⟩
    have bh := back_ok Rd 0 (iosOf as) (ioPlaces 0 as) env env' hnd hb own fun k i hk => by rw [Nat.zero_add, List.getElem?_map, hk]; rfl
    rcases bh.2 i s h with ⟨_, h1⟩ | ⟨_, t, d', h1, _, rfl, _⟩
    · exact R.slot_ne hp i s h1 ht
    · exact R.slot_ne hp i t h1 (by rw [← (put_flags t d').2]; exact ht)
  rcases hfl with ⟨rfl, rfl, rfl⟩ | rfl
  · intro σ' Ic Hc Rd s
    exact k Ic Hc .non (fin σ' Ic Hc Rd s) s .non
  · intro σ' Ic Hc v Rd s hr
    have Rf := fin σ' Ic Hc Rd s
    refine k Ic Hc v Rf s ?_
    cases md with
    | imm => exact hr
    | new => obtain ⟨p, o, e, n, r⟩ := hr; exact ⟨p, o, e, newB σ' Ic Hc p o Rd Rf n, r⟩
def mCallV (N : List Str) (np : Nat) (mf : MS) (a : MG) : ME := fun env => if ((a env).map fun p => p.1.length) = some np then (mCall N mf a env).map fun r => (r.2.1, r.2.2) else none
def mCallF (N : List Str) (np : Nat) (mf : MS) (a : MG) : ME := fun env => if ((a env).map fun p => p.1.length) = some np then (mCall N mf a env).bind fun r => match r.1 with
  | .new => some (r.2.1, r.2.2)
  | .imm => none
  else none
/-- what stands for a def: its promise at its level -/
structure FnZ (Z : Zc) (x : Str) (N : List Str) (np : Nat) (mf : MS) : Prop where
  ex : ∃ (f : Addr) (fd : FuncData) (ps : List Str), FnG Z.P Z.w Z.K Z.mg Z.base CX0 Z.k f fd ps (spM Z.K Z.cl N np mf) ∧ Z.mg x = some (.ref f) ∧ PySem.W.keepIn Z.K (.ref f) = true ∧ Binds Z.K fd ps []
theorem call_se {N : List Str} {np : Nat} {mf : MS} {t : TA} {a : MG} (h : SG Z t a) : SE Z (tCall (spM Z.K Z.cl N np mf) [] E0 t) (mCallV N np mf a) := by
  intro g env σ I H Q d env' R hm k
  unfold mCallV at hm
  split at hm
  · rename_i hnp
    cases q : mCall N mf a env with
    | none => rw [q] at hm; cases hm
    | some r =>
      obtain ⟨md, d', e'⟩ := r
      rw [q] at hm; cases hm
      obtain ⟨as, e1, ss, fl, cenv, h1, h2, h3, h4, h5, h6⟩ := mCall_inv q
      rw [h1] at hnp
      refine h g env σ I H _ as e1 R h1 fun vs I1 H1 R1 s1 os => ?_
      rw [List.append_nil]
      refine call_post R1 os h2 h3 h4 h5 h6 (Option.some.inj hnp) fun Ic Hc v Rf s hr => ?_
      cases md with
      | imm => exact k v Ic Hc Rf (s1.trans s) hr
      | new =>
        obtain ⟨p, o, rfl, n, r⟩ := hr
        obtain ⟨R2, s2⟩ := Rf.freeze n
        exact k _ _ _ R2 ((s1.trans s).trans s2) (.obj upd_same (r.mono s2))
  · cases hm
theorem call_sf {N : List Str} {np : Nat} {mf : MS} {t : TA} {a : MG} (h : SG Z t a) : SF Z (tCall (spM Z.K Z.cl N np mf) [] E0 t) (mCallF N np mf a) := by
  intro g env σ I H Q d env' R hm k
  unfold mCallF at hm
  split at hm
  · rename_i hnp
    cases q : mCall N mf a env with
    | none => rw [q] at hm; cases hm
    | some r =>
      obtain ⟨md, d', e'⟩ := r
      rw [q] at hm
      cases md with
      | imm => cases hm
      | new =>
        cases hm
        obtain ⟨as, e1, ss, fl, cenv, h1, h2, h3, h4, h5, h6⟩ := mCall_inv q
        rw [h1] at hnp
        refine h g env σ I H _ as e1 R h1 fun vs I1 H1 R1 s1 os => ?_
        rw [List.append_nil]
        refine call_post R1 os h2 h3 h4 h5 h6 (Option.some.inj hnp) fun Ic Hc v Rf s hr => ?_
        obtain ⟨p, o, rfl, n, r⟩ := hr
        exact k p o Ic Hc Rf (s1.trans s) n r
  · cases hm
theorem ev_call {x : Str} {N : List Str} {np : Nat} {mf : MS} {e : Expr} {es : List Expr} {a : MG} {p pos : Pos} (F : FnZ Z x N np mf) (hg : GlZ Z x) (ha : AV Z (e :: es) a) (hdb : (x == ("__debug__" : Str)) = false := by decide)
    (he : ∀ env, starEach (e :: es) env = (false, eval e env) :: starEach es env := by intro _; rfl) (hpl : ∀ env, (backTo pos (starEach es env)).any (·.1) = false := by intro _; rfl) : EV Z (.Call (.Name x p) (e :: es) [] pos) (mCallV N np mf a) := by
  obtain ⟨f, fd, ps, h1, h2, h3, h4⟩ := F.ex
  obtain ⟨t, a1, a2⟩ := ha
  refine ⟨_, fun X i => FnG.pe (CX := CX0) (k := Z.k) (f := f) (fd := fd) (ps := ps) (E := E0) (sp := spM Z.K Z.cl N np mf) ?_ i.room i.gd (glOf i hg) (by rw [i.mg]; exact h2) (by rw [i.K]; exact h3) (by rw [i.K]; exact h4) pass0 (a1 X i) hdb (he _) (hpl _), call_se a2⟩
  rw [i.prog, i.w, i.K, i.mg, i.base]; exact h1
theorem ef_call {x : Str} {N : List Str} {np : Nat} {mf : MS} {e : Expr} {es : List Expr} {a : MG} {p pos : Pos} (F : FnZ Z x N np mf) (hg : GlZ Z x) (ha : AV Z (e :: es) a) (hdb : (x == ("__debug__" : Str)) = false := by decide)
    (he : ∀ env, starEach (e :: es) env = (false, eval e env) :: starEach es env := by intro _; rfl) (hpl : ∀ env, (backTo pos (starEach es env)).any (·.1) = false := by intro _; rfl) : EF Z (.Call (.Name x p) (e :: es) [] pos) (mCallF N np mf a) := by
  obtain ⟨f, fd, ps, h1, h2, h3, h4⟩ := F.ex
  obtain ⟨t, a1, a2⟩ := ha
  refine ⟨_, fun X i => FnG.pe (CX := CX0) (k := Z.k) (f := f) (fd := fd) (ps := ps) (E := E0) (sp := spM Z.K Z.cl N np mf) ?_ i.room i.gd (glOf i hg) (by rw [i.mg]; exact h2) (by rw [i.K]; exact h3) (by rw [i.K]; exact h4) pass0 (a1 X i) hdb (he _) (hpl _), call_sf a2⟩
  rw [i.prog, i.w, i.K, i.mg, i.base]; exact h1
end
end Q
namespace Q
open PySem L2
section
variable {Z : Zc}
/-! ## Methods, instances made, fields stored -/
def isObj (c : String) (m : Str) : D → Bool
  | .obj c' ks _ => decide (c' = c) && decide (m ∉ ks)
  | _ => false
theorem isObj_inv {c : String} {m : Str} {d : D} (h : isObj c m d = true) : ∃ ks xs, d = .obj c ks xs ∧ m ∉ ks := by
  cases d <;> simp only [isObj] at h <;> first | (rw [Bool.and_eq_true] at h; obtain ⟨h1, h2⟩ := h; have := of_decide_eq_true h1; subst this; exact ⟨_, _, rfl, of_decide_eq_true h2⟩) | cases h
theorem lookup_out {m : Str} : ∀ {ks : List Str} {vs : List V}, m ∉ ks → (ks.zip vs).lookup m = none
  | [], _, _ => by simp
  | k :: ks, [], _ => by simp
  | k :: ks, v :: vs, h => by
    rw [List.zip_cons_cons, List.lookup_cons]
    have h1 : (m == k) = false := by
      rw [beq_eq_false_iff_ne]
      exact fun z => h (by rw [z]; exact List.mem_cons_self)
    rw [h1]
    exact lookup_out fun z => h (List.mem_cons_of_mem _ z)
structure MtZ (Z : Zc) (c : String) (m : Str) (N : List Str) (np : Nat) (mf : MS) : Prop where
  ex : ∃ (C f : Addr) (fd : FuncData) (ps : List Str), Z.cl c = some C ∧ Cls Z.K C ∧ Meth Z.K C m f ∧ FnG Z.P Z.w Z.K Z.mg Z.base CX0 Z.k f fd ps (spM Z.K Z.cl N np mf) ∧ Binds Z.K fd ps []
def cRecv (c : String) (m : Str) (a : ME) (r : MG) : MG := fun env => (a env).bind fun p => if isObj c m p.1 = true then (r p.2).map fun q => (.imm p.1 :: q.1, q.2) else none
def cRecvIo (c : String) (m : Str) (i : Nat) (r : MG) : MG := fun env => (env[i]?.bind Sl.own?).bind fun d => if isObj c m d = true then (r env).map fun q => (.io i :: q.1, q.2) else none
/-- what a method call asks, from the receiver on -/
theorem meth_core {c : String} {mn : Str} {C : Addr} {N : List Str} {np : Nat} {mf : MS} {ta : TE} {t : TA} {a : MG} (hC : Z.cl c = some C)
    (h : ∀ (g : G) (env : En) (σ : St) (I H : Hp) (Q : VK) (as : List Ag) (env' : En), SR Z.K Z.cl g env σ I H → a env = some (as, env') → (∀ v vs I' H', SR Z.K Z.cl g env' σ I' H' → Same I I' → AgsOk Z I' σ as (v :: vs) → spM Z.K Z.cl N np mf (v :: vs) H' Q E0) → tMeth C mn (spM Z.K Z.cl N np mf) [] E0 ta t σ H Q) :
    SE Z (tMeth C mn (spM Z.K Z.cl N np mf) [] E0 ta t) (mCallV N np mf a) ∧ SF Z (tMeth C mn (spM Z.K Z.cl N np mf) [] E0 ta t) (mCallF N np mf a) := by
  constructor
  · intro g env σ I H Q d env' R hm k
    unfold mCallV at hm
    split at hm
    · rename_i hnp
      cases q : mCall N mf a env with
      | none => rw [q] at hm; cases hm
      | some r =>
        obtain ⟨md, d', e'⟩ := r
        rw [q] at hm; cases hm
        obtain ⟨as, e1, ss, fl, cenv, h1, h2, h3, h4, h5, h6⟩ := mCall_inv q
        rw [h1] at hnp
        refine h g env σ I H Q as e1 R h1 fun v vs I1 H1 R1 s1 os => ?_
        refine call_post R1 os h2 h3 h4 h5 h6 (Option.some.inj hnp) fun Ic Hc v Rf s hr => ?_
        cases md with
        | imm => exact k v Ic Hc Rf (s1.trans s) hr
        | new =>
          obtain ⟨p, o, rfl, n, r⟩ := hr
          obtain ⟨R2, s2⟩ := Rf.freeze n
          exact k _ _ _ R2 ((s1.trans s).trans s2) (.obj upd_same (r.mono s2))
    · cases hm
  · intro g env σ I H Q d env' R hm k
    unfold mCallF at hm
    split at hm
    · rename_i hnp
      cases q : mCall N mf a env with
      | none => rw [q] at hm; cases hm
      | some r =>
        obtain ⟨md, d', e'⟩ := r
        rw [q] at hm
        cases md with
        | imm => cases hm
        | new =>
          cases hm
          obtain ⟨as, e1, ss, fl, cenv, h1, h2, h3, h4, h5, h6⟩ := mCall_inv q
          rw [h1] at hnp
          refine h g env σ I H Q as e1 R h1 fun v vs I1 H1 R1 s1 os => ?_
          refine call_post R1 os h2 h3 h4 h5 h6 (Option.some.inj hnp) fun Ic Hc v Rf s hr => ?_
          obtain ⟨p, o, rfl, n, r⟩ := hr
          exact k p o Ic Hc Rf (s1.trans s) n r
    · cases hm
theorem recv_ok {c : String} {mn : Str} {C : Addr} {N : List Str} {np : Nat} {mf : MS} {ta : TE} {t : TA} {m : ME} {a : MG} (hC : Z.cl c = some C) (h2 : SE Z ta m) (a2 : SG Z t a) :
    ∀ (g : G) (env : En) (σ : St) (I H : Hp) (Q : VK) (as : List Ag) (env' : En), SR Z.K Z.cl g env σ I H → cRecv c mn m a env = some (as, env') → (∀ v vs I' H', SR Z.K Z.cl g env' σ I' H' → Same I I' → AgsOk Z I' σ as (v :: vs) → spM Z.K Z.cl N np mf (v :: vs) H' Q E0) → tMeth C mn (spM Z.K Z.cl N np mf) [] E0 ta t σ H Q := by
  intro g env σ I H Q as env' R hm k
  unfold cRecv at hm
  cases e1 : m env with
  | none => rw [e1] at hm; cases hm
  | some p =>
    rw [e1] at hm
    simp only [Option.bind_some] at hm
    split at hm
    · rename_i hob
      cases e2 : a p.2 with
      | none => rw [e2] at hm; cases hm
      | some q =>
        rw [e2] at hm; cases hm
        refine h2 g env σ I H _ p.1 p.2 R e1 fun v I1 H1 R1 s1 rv => ?_
        obtain ⟨ks, xs, hd, hn⟩ := isObj_inv hob
        have rv2 := rv
        rw [hd] at rv2
        obtain ⟨b, C', dx, vs, rfl, hb, hC', ra, hl⟩ := rv2.ob_inv
        rw [hC] at hC'; cases hC'
        refine ⟨b, dx, _, rfl, R1.sub _ _ hb, lookup_out hn, ?_⟩
        exact a2 g p.2 σ I1 H1 _ q.1 q.2 R1 e2 fun vs I2 H2 R2 s2 os => by
          rw [List.append_nil]
          exact k _ vs I2 H2 R2 (s1.trans s2) (.cons (.imm (rv.mono s2)) os)
    · cases hm
theorem recvIo_ok {c : String} {mn : Str} {C : Addr} {N : List Str} {np : Nat} {mf : MS} {t : TA} {i : Nat} {a : MG} (hC : Z.cl c = some C) (a2 : SG Z t a) :
    ∀ (g : G) (env : En) (σ : St) (I H : Hp) (Q : VK) (as : List Ag) (env' : En), SR Z.K Z.cl g env σ I H → cRecvIo c mn i a env = some (as, env') → (∀ v vs I' H', SR Z.K Z.cl g env' σ I' H' → Same I I' → AgsOk Z I' σ as (v :: vs) → spM Z.K Z.cl N np mf (v :: vs) H' Q E0) → tMeth C mn (spM Z.K Z.cl N np mf) [] E0 (tVar i) t σ H Q := by
  intro g env σ I H Q as env' R hm k
  unfold cRecvIo at hm
  cases e1 : env[i]? with
  | none => rw [e1] at hm; cases hm
  | some s =>
    rw [e1] at hm
    simp only [Option.bind_some] at hm
    cases e3 : s.own? with
    | none => rw [e3] at hm; cases hm
    | some d =>
      rw [e3] at hm
      simp only [Option.bind_some] at hm
      split at hm
      · rename_i hob
        cases e2 : a env with
        | none => rw [e2] at hm; cases hm
        | some q =>
          rw [e2] at hm; cases hm
          obtain ⟨b, o, h3, h4, h5, h6⟩ := own_at R e1 e3
          obtain ⟨ks, xs, rfl, hn⟩ := isObj_inv hob
          obtain ⟨C', dx, vs, rfl, hC', ra, hl⟩ := h5.ob_inv
          rw [hC] at hC'; cases hC'
          refine ⟨.ref b, h3, b, dx, _, rfl, h4, lookup_out hn, ?_⟩
          exact a2 g env σ I H _ q.1 q.2 R e2 fun vs I2 H2 R2 s2 os => by
            rw [List.append_nil]
            exact k _ vs I2 H2 R2 s2 (.cons (.io h3) os)
      · cases hm
theorem ev_meth {c : String} {mn : Str} {N : List Str} {np : Nat} {mf : MS} {o e : Expr} {es : List Expr} {m : ME} {a : MG} {apos pos : Pos} (F : MtZ Z c mn N np mf) (ho : EV Z o m) (ha : AV Z (e :: es) a)
    (hst : ∀ env, starEach (e :: es) env = (false, eval e env) :: starEach es env := by intro _; rfl) (hpl : ∀ env, (backTo pos (starEach es env)).any (·.1) = false := by intro _; rfl)
    (ht : ∀ env, ∃ pl : Sem Bool, eval (.Call (.Attribute o mn apos) (e :: es) [] pos) env = (do
      let ov ← eval o env
      standAt apos.atName
      let (f, first) ← holding [ov] (getMethod ov mn pl)
      callWith pos f first (backTo pos (starEach (e :: es) env)) (backToKw pos (keywordEach [] env))) := by intro _; exact ⟨_, rfl⟩) :
    EV Z (.Call (.Attribute o mn apos) (e :: es) [] pos) (mCallV N np mf (cRecv c mn m a)) ∧ EF Z (.Call (.Attribute o mn apos) (e :: es) [] pos) (mCallF N np mf (cRecv c mn m a)) := by
  obtain ⟨C, f, fd, ps, hC, h1, h2, h3, h4⟩ := F.ex
  obtain ⟨ta, o1, o2⟩ := ho
  obtain ⟨t, a1, a2⟩ := ha
  have pe : ∀ X, InF Z X → PE X (.Call (.Attribute o mn apos) (e :: es) [] pos) (tMeth C mn (spM Z.K Z.cl N np mf) [] E0 ta t) := fun X i => by
    obtain ⟨pl, hpl2⟩ := ht X.env
    exact FnG.peM (pl := pl) (CX := CX0) (k := Z.k) (f := f) (fd := fd) (ps := ps) (E := E0) (sp := spM Z.K Z.cl N np mf) (by rw [i.prog, i.w, i.K, i.mg, i.base]; exact h3) i.room i.gd (o1 X i) (by rw [i.K]; exact h1) (by rw [i.K]; exact h2) (by rw [i.K]; exact h4) pass0 (a1 X i) (hst _) (hpl _) hpl2
  have q := meth_core (mn := mn) (mf := mf) (N := N) (np := np) (ta := ta) (t := t) hC (recv_ok (mn := mn) (mf := mf) (N := N) (np := np) hC o2 a2)
  exact ⟨⟨_, pe, q.1⟩, ⟨_, pe, q.2⟩⟩
theorem ev_methIo {c : String} {mn : Str} {N : List Str} {np : Nat} {mf : MS} {i : Nat} {x : Str} {p : Pos} {e : Expr} {es : List Expr} {a : MG} {apos pos : Pos} (F : MtZ Z c mn N np mf) (hN : Z.N[i]? = some x) (hv : Vis Z.sc x) (ha : AV Z (e :: es) a)
    (hd : (x == ("__debug__" : Str)) = false := by decide) (hcd : (x == ("__classdict__" : Str)) = false := by decide)
    (hst : ∀ env, starEach (e :: es) env = (false, eval e env) :: starEach es env := by intro _; rfl) (hpl : ∀ env, (backTo pos (starEach es env)).any (·.1) = false := by intro _; rfl)
    (ht : ∀ env, ∃ pl : Sem Bool, eval (.Call (.Attribute (.Name x p) mn apos) (e :: es) [] pos) env = (do
      let ov ← eval (.Name x p) env
      standAt apos.atName
      let (f, first) ← holding [ov] (getMethod ov mn pl)
      callWith pos f first (backTo pos (starEach (e :: es) env)) (backToKw pos (keywordEach [] env))) := by intro _; exact ⟨_, rfl⟩) :
    EV Z (.Call (.Attribute (.Name x p) mn apos) (e :: es) [] pos) (mCallV N np mf (cRecvIo c mn i a)) ∧ EF Z (.Call (.Attribute (.Name x p) mn apos) (e :: es) [] pos) (mCallF N np mf (cRecvIo c mn i a)) := by
  obtain ⟨C, f, fd, ps, hC, h1, h2, h3, h4⟩ := F.ex
  obtain ⟨t, a1, a2⟩ := ha
  have pe : ∀ X, InF Z X → PE X (.Call (.Attribute (.Name x p) mn apos) (e :: es) [] pos) (tMeth C mn (spM Z.K Z.cl N np mf) [] E0 (tVar i) t) := fun X k => by
    obtain ⟨pl, hpl2⟩ := ht X.env
    exact FnG.peM (pl := pl) (CX := CX0) (k := Z.k) (f := f) (fd := fd) (ps := ps) (E := E0) (sp := spM Z.K Z.cl N np mf) (by rw [k.prog, k.w, k.K, k.mg, k.base]; exact h3) k.room k.gd (pe_var (by rw [k.N]; exact hN) (visOf k hv) hd hcd) (by rw [k.K]; exact h1) (by rw [k.K]; exact h2) (by rw [k.K]; exact h4) pass0 (a1 X k) (hst _) (hpl _) hpl2
  have q := meth_core (mn := mn) (mf := mf) (N := N) (np := np) (ta := tVar i) (t := t) hC (recvIo_ok (mn := mn) (mf := mf) (N := N) (np := np) hC a2)
  exact ⟨⟨_, pe, q.1⟩, ⟨_, pe, q.2⟩⟩
/-! ### an instance is made -/
structure MkZ (Z : Zc) (x : Str) (c : String) (N : List Str) (np : Nat) (mf : MS) : Prop where
  ex : ∃ (k : Nat) (C f : Addr) (fd : FuncData) (ps : List Str), k + 1 ≤ Z.k ∧ Z.cl c = some C ∧ Z.mg x = some (.ref C) ∧ Mk Z.K C f ∧ FnG Z.P Z.w Z.K Z.mg Z.base CX0 k f fd ps (spM Z.K Z.cl N np mf) ∧ Binds Z.K fd ps []
theorem SR.push {K : PySem.W.Frag} {cl : String → Option Addr} {g : G} {env : En} {σ : St} {I H : Hp} {p : Addr} {o : HO} {d : D} (R : SR K cl g env σ I H) (n : New g env σ I H p o) (r : ObjRep K cl I d o) : SR K cl g (env ++ [.own d]) (σ ++ [some (.ref p)]) I H := by
  have get : ∀ (i : Nat) (s : Sl), (env ++ [Sl.own d])[i]? = some s → (i < σ.length ∧ env[i]? = some s ∧ (σ ++ [some (V.ref p)])[i]? = σ[i]?) ∨ (i = σ.length ∧ s = .own d ∧ (σ ++ [some (V.ref p)])[i]? = some (some (.ref p))) := fun i s h => by
    by_cases hi : i < env.length
    · rw [List.getElem?_append_left hi] at h
      exact .inl ⟨by rw [← R.len]; exact hi, h, List.getElem?_append_left (by rw [← R.len]; exact hi)⟩
    · rw [List.getElem?_append_right (by omega)] at h
      obtain ⟨h1, h2⟩ := List.getElem?_eq_some_iff.mp h
      have e : i = env.length := by simp at h1; omega
      subst e
      simp at h2
      refine .inr ⟨R.len, h2.symm, ?_⟩
      rw [R.len, List.getElem?_append_right (Nat.le_refl _)]; simp
  refine ⟨R.sub, R.i0, R.h0, R.hi, R.oh, by rw [List.length_append, List.length_append, R.len]; rfl, fun i s h => ?_, fun i j s s' a hne h1 h2 m1 m2 q1 q2 => ?_, fun a u hx => ?_, R.ex0, R.tb⟩
  · rcases get i s h with ⟨_, h1, h2⟩ | ⟨_, rfl, h2⟩
    · rw [h2]; exact R.at_ i s h1
    · exact ⟨_, h2, p, o, rfl, n.at_, r, n.i, n.h0⟩
  · have mt : s.top = true := by cases s <;> first | rfl | cases m1
    rcases get i s h1 with ⟨_, f1, f2⟩ | ⟨e1, rfl, f2⟩
    · rcases get j s' h2 with ⟨_, k1, k2⟩ | ⟨_, rfl, k2⟩
      · exact R.dis i j s s' a hne f1 k1 m1 m2 (by rw [← f2]; exact q1) (by rw [← k2]; exact q2)
      · rw [k2] at q2; cases q2
        rw [f2] at q1
        exact n.no i s f1 mt q1
    · rcases get j s' h2 with ⟨_, k1, k2⟩ | ⟨e2, rfl, k2⟩
      · rw [f2] at q1; cases q1
        rw [k2] at q2
        exact n.no j s' k1 m2 q2
      · exact hne (e1.trans e2.symm)
  · obtain ⟨h1, h2, h3⟩ := R.ex a u hx
    refine ⟨h1, h2, fun i s h ht => ?_⟩
    rcases get i s h with ⟨_, f1, f2⟩ | ⟨_, rfl, f2⟩
    · rw [f2]; exact h3 i s f1 ht
    · rw [f2]; intro z; cases z; exact n.x u hx
theorem SR.pop {K : PySem.W.Frag} {cl : String → Option Addr} {g : G} {env : En} {σ : St} {I H : Hp} {x : Option V} {d : D} (hl : env.length = σ.length + 1) (R : SR K cl g env (σ ++ [x]) I H) (hd : env[σ.length]? = some (.own d)) :
    ∃ p o, x = some (.ref p) ∧ SR K cl g (env.take σ.length) σ I H ∧ New g (env.take σ.length) σ I H p o ∧ ObjRep K cl I d o := by
  obtain ⟨y, hy, p, o, rfl, h1, h2, h3, h4⟩ := R.at_ _ _ hd
  have hx : x = some (.ref p) := by
    rw [List.getElem?_append_right (Nat.le_refl _)] at hy
    simpa using hy
  subst hx
  have low : ∀ (i : Nat) (s : Sl), (env.take σ.length)[i]? = some s → i < σ.length ∧ env[i]? = some s ∧ (σ ++ [some (V.ref p)])[i]? = σ[i]? := fun i s h => by
    obtain ⟨f1, f2⟩ := List.getElem?_eq_some_iff.mp h
    have f3 : i < σ.length := by rw [List.length_take] at f1; omega
    rw [List.getElem?_take_of_lt f3] at h
    exact ⟨f3, h, List.getElem?_append_left f3⟩
  refine ⟨p, o, rfl, ⟨R.sub, R.i0, R.h0, R.hi, R.oh, by rw [List.length_take]; omega, fun i s h => ?_, fun i j s s' a hne e1 e2 m1 m2 q1 q2 => ?_, fun a u hx => ?_, R.ex0, R.tb⟩, ⟨h1, h3, h4, fun i s h ht z => ?_, fun o' hx => ?_⟩, h2⟩
  · obtain ⟨_, f1, f2⟩ := low i s h
    rw [← f2]; exact R.at_ i s f1
  · obtain ⟨_, f1, f2⟩ := low i s e1
    obtain ⟨_, k1, k2⟩ := low j s' e2
    exact R.dis i j s s' a hne f1 k1 m1 m2 (by rw [f2]; exact q1) (by rw [k2]; exact q2)
  · obtain ⟨q1, q2, q3⟩ := R.ex a u hx
    refine ⟨q1, q2, fun i s h ht => ?_⟩
    obtain ⟨_, f1, f2⟩ := low i s h
    rw [← f2]; exact q3 i s f1 ht
  · obtain ⟨f0, f1, f2⟩ := low i s h
    exact R.dis _ i _ s p (by omega) hd f1 rfl ht hy (by rw [f2]; exact z)
  · exact (R.ex p o' hx).2.2 _ _ hd rfl hy
def mMake (c : String) (N : List Str) (np : Nat) (mf : MS) (a : MG) : ME := fun env => (a env).bind fun p => if p.1.length + 1 = np then (mCall N mf (fun _ => some (.io p.2.length :: p.1, p.2 ++ [.own (.obj c [] [])])) p.2).bind fun r => match r.1, r.2.1 with
    | .imm, .non => if r.2.2.length = p.2.length + 1 then match r.2.2[p.2.length]? with
      | some (.own d) => some (d, r.2.2.take p.2.length)
      | _ => none
      else none
    | _, _ => none
  else none
theorem AgsOk.grow {I : Hp} {σ : St} {x : Option V} : ∀ {as : List Ag} {vs : List V}, AgsOk Z I σ as vs → AgsOk Z I (σ ++ [x]) as vs
  | _, _, .nil => .nil
  | _, _, .cons o os => .cons (by
      cases o with
      | imm r => exact .imm r
      | bor h => exact .bor (by rw [List.getElem?_append_left (List.getElem?_eq_some_iff.mp h).1]; exact h)
      | io h => exact .io (by rw [List.getElem?_append_left (List.getElem?_eq_some_iff.mp h).1]; exact h)) (AgsOk.grow os)
theorem make_sf {c : String} {C : Addr} {N : List Str} {np : Nat} {mf : MS} {t : TA} {a : MG} (hC : Z.cl c = some C) (a2 : SG Z t a) : SF Z (tMake C (spM Z.K Z.cl N np mf) [] E0 t) (mMake c N np mf a) := by
  intro g env σ I H Q d env' R hm k
  unfold mMake at hm
  cases e1 : a env with
  | none => rw [e1] at hm; cases hm
  | some p =>
    obtain ⟨as, en⟩ := p
    rw [e1] at hm
    simp only [Option.bind_some] at hm
    split at hm
    · rename_i hnp
      cases e2 : mCall N mf (fun _ => some (.io en.length :: as, en ++ [.own (.obj c [] [])])) en with
      | none => rw [e2] at hm; cases hm
      | some r =>
        obtain ⟨md, d', e'⟩ := r
        rw [e2] at hm
        simp only [Option.bind_some] at hm
        split at hm
        · split at hm
          · rename_i hlen
            split at hm
            · rename_i d2 hlast
              cases hm
              obtain ⟨as', en', ss, fl, cenv, h1, h2, h3, h4, h5, h6⟩ := mCall_inv e2
              cases h1
              refine a2 g env σ I H _ as en R e1 fun vs I1 H1 R1 s1 os => ?_
              intro x dx hx hdx hne
              rw [List.append_nil]
              have R2 := R1.alloc hdx (.own x)
              have hx2 : (upd H1 dx (.own x)) x = none := by rw [upd_ne (Ne.symm hne)]; exact hx
              have R3 := R2.alloc hx2 (.ins C dx [])
              have n3 := R2.new (o := .ins C dx []) hx2
              have ob : ObjRep Z.K Z.cl I1 (.obj c [] []) (.ins C dx []) := .obj (ks := []) (vs := []) hC .nil rfl
              have R4 := R3.push n3 ob
              have os2 : AgsOk Z I1 (σ ++ [some (.ref x)]) (.io en.length :: as) (.ref x :: vs) := .cons (.io (by rw [R1.len, List.getElem?_append_right (Nat.le_refl _)]; simp)) os.grow
              refine call_post R4 os2 h2 h3 h4 h5 h6 (by rw [List.length_cons]; exact hnp) fun Ic Hc v Rf s hr => ⟨hr.non_inv, ?_⟩
              have hl2 : e'.length = σ.length + 1 := by rw [hlen, R1.len]
              rw [R1.len] at hlast
              obtain ⟨p, o, hp, R5, n5, r5⟩ := SR.pop hl2 Rf hlast
              cases hp
              rw [R1.len] at k
              exact k x o Ic Hc R5 (s1.trans s) n5 r5
            · cases hm
          · cases hm
        · cases hm
    · cases hm
theorem ef_make {x : Str} {c : String} {N : List Str} {np : Nat} {mf : MS} {e : Expr} {es : List Expr} {a : MG} {p pos : Pos} (F : MkZ Z x c N np mf) (hg : GlZ Z x) (ha : AV Z (e :: es) a) (hdb : (x == ("__debug__" : Str)) = false := by decide)
    (he : ∀ env, starEach (e :: es) env = (false, eval e env) :: starEach es env := by intro _; rfl) (hpl : ∀ env, (backTo pos (starEach es env)).any (·.1) = false := by intro _; rfl) : EF Z (.Call (.Name x p) (e :: es) [] pos) (mMake c N np mf a) := by
  obtain ⟨k, C, f, fd, ps, hk, hC, h1, h2, h3, h4⟩ := F.ex
  obtain ⟨t, a1, a2⟩ := ha
  exact ⟨_, fun X i => FnG.peK (CX := CX0) (k := k) (f := f) (fd := fd) (ps := ps) (E := E0) (sp := spM Z.K Z.cl N np mf) (by rw [i.prog, i.w, i.K, i.mg, i.base]; exact h3) (i.room.mono hk) i.gd (by rw [i.K]; exact h2) (glOf i hg) (by rw [i.mg]; exact h1) (by rw [i.K]; exact h4) pass0 (a1 X i) hdb (he _) (hpl _), make_sf hC a2⟩
/-! ### o.f = e -/
def putK1 (f : Str) : List Str → List Str
  | [] => [f]
  | k :: ks => if k = f then k :: ks else k :: putK1 f ks
def putD1 (f : Str) (d : D) : List Str → List D → List D
  | k :: ks, x :: xs => if k = f then d :: xs else x :: putD1 f d ks xs
  | _, _ => [d]
theorem putF_rep {K : PySem.W.Frag} {cl : String → Option Addr} {I : Hp} {f : Str} {d : D} {v : V} (r : Rep K cl I d v) : ∀ {ks : List Str} {xs : List D} {vs : List V}, Reps K cl I xs vs → ks.length = xs.length →
    ∃ ws, putF f v (ks.zip vs) = (putK1 f ks).zip ws ∧ Reps K cl I (putD1 f d ks xs) ws ∧ (putK1 f ks).length = (putD1 f d ks xs).length
  | [], [], [], _, _ => ⟨[v], rfl, .cons r .nil, rfl⟩
  | k :: ks, x :: xs, u :: vs, .cons r1 r2, h => by
    rw [List.zip_cons_cons]
    unfold putF putK1 putD1
    by_cases e : k = f
    · rw [if_pos e, if_pos e, if_pos e]
      exact ⟨v :: vs, rfl, .cons r r2, h⟩
    · rw [if_neg e, if_neg e, if_neg e]
      obtain ⟨ws, h1, h2, h3⟩ := putF_rep (f := f) r r2 (by simpa using h)
      exact ⟨u :: ws, by rw [h1]; rfl, .cons r1 h2, by simp [h3]⟩
def mSetF (c : String) (f : Str) (i : Nat) (e : ME) : MS := fun env => (e env).bind fun p => (p.2[i]?.bind Sl.own?).bind fun d => match d with
  | .obj c' ks xs => if c' = c ∧ ks.length < 1000 ∧ xs.length < 1000 then some (.nx (putS p.2 i (.obj c (putK1 f ks) (putD1 f p.1 ks xs)))) else none
  | _ => none
theorem sv_setF {c : String} {f : Str} {i : Nat} {x : Str} {e : Expr} {m : ME} {p p1 pos : Pos} (hc : ∀ C, Z.cl c = some C → Cls Z.K C ∧ NoAttr Z.K C f) (hN : Z.N[i]? = some x) (hv : Vis Z.sc x) (h : EV Z e m) (hd : (x == ("__debug__" : Str)) = false := by decide) (hcd : (x == ("__classdict__" : Str)) = false := by decide)
    (hs : ∀ env, swapsWith e (some (.Attribute (.Name x p) f p1)) pos.line env = pure false := by intro _; rfl) : SV Z (.Assign [.Attribute (.Name x p) f p1] e pos) (mSetF c f i m) := by
  obtain ⟨t, q1, q2⟩ := h
  refine ⟨sFld Z.K (tVar i) t f, fun X k => by have q := ps_fld (X := X) (f := f) (pos' := p1) (pos := pos) (pe_var (pos := p) (by rw [k.N]; exact hN) (visOf k hv) hd hcd) (q1 X k) (hs _); rw [k.K] at q; exact q, fun g env σ I H D fl R hm k => ?_⟩
  unfold mSetF at hm
  cases e1 : m env with
  | none => rw [e1] at hm; cases hm
  | some r =>
    obtain ⟨y, en⟩ := r
    rw [e1] at hm; simp only [Option.bind_some] at hm
    cases e2 : en[i]? with
    | none => rw [e2] at hm; cases hm
    | some s =>
      rw [e2] at hm; simp only [Option.bind_some] at hm
      cases e3 : s.own? with
      | none => rw [e3] at hm; cases hm
      | some d =>
        rw [e3] at hm; simp only [Option.bind_some] at hm
        split at hm
        · rename_i c' ks xs
          split at hm
          · rename_i hcc
            obtain ⟨rfl, hk, hxl⟩ := hcc
            cases hm
            refine q2 g env σ I H _ y en R e1 fun v I1 H1 R1 s1 rv => ?_
            obtain ⟨a, o, h3, h4, h5, h6⟩ := own_at R1 e2 e3
            obtain ⟨C, dx, vs, rfl, hC, ra, hl⟩ := h5.ob_inv
            obtain ⟨ws, w1, w2, w3⟩ := putF_rep (f := f) rv ra hl
            refine ⟨.ref a, h3, a, C, dx, _, rfl, h4, (hc C hC).1, (hc C hC).2, by rw [List.length_zip]; omega, ?_⟩
            rw [w1]
            have R2 := R1.mutate e2 e3 h3 (.obj hC w2 w3 : ObjRep Z.K Z.cl I1 (.obj c' (putK1 f ks) (putD1 f y ks xs)) (.ins C dx ((putK1 f ks).zip ws)))
            have e5 : putS en i (.obj c' (putK1 f ks) (putD1 f y ks xs)) = en.set i (s.put (.obj c' (putK1 f ks) (putD1 f y ks xs))) := by unfold putS; rw [e2]
            rw [e5] at k
            exact k σ I1 _ R2 s1
          · cases hm
        · cases hm
end
end Q
namespace Q
open PySem L2
section
variable {Z : Zc}
/-! ## {k: v for ..} -/
def hasK (k : Key) : List Key → Bool
  | [] => false
  | q :: ks => decide (q = k) || hasK k ks
def putKK (k : Key) (ks : List Key) : List Key := if hasK k ks = true then ks else ks ++ [k]
def repl (k : Key) (d : D) : List Key → List D → List D
  | q :: ks, x :: xs => (if q = k then d else x) :: repl k d ks xs
  | _, xs => xs
def putKD (k : Key) (d : D) (ks : List Key) (xs : List D) : List D := if hasK k ks = true then repl k d ks xs else xs ++ [d]
theorem repl_rep {K : PySem.W.Frag} {cl : String → Option Addr} {I : Hp} {k : Key} {d : D} {v : V} (r : Rep K cl I d v) : ∀ {ks : List Key} {xs : List D} {vs : List V}, Reps K cl I xs vs → ks.length = xs.length →
    ∃ ws, (ks.zip vs).map (fun kv => if kv.1 = k then (kv.1, v) else kv) = ks.zip ws ∧ Reps K cl I (repl k d ks xs) ws ∧ ks.length = (repl k d ks xs).length
  | [], [], [], _, _ => ⟨[], rfl, .nil, rfl⟩
  | q :: ks, x :: xs, u :: vs, .cons r1 r2, h => by
    obtain ⟨ws, h1, h2, h3⟩ := repl_rep (k := k) r r2 (by simpa using h)
    rw [List.zip_cons_cons, List.map_cons, h1]
    unfold repl
    by_cases e : q = k
    · rw [if_pos e]
      exact ⟨v :: ws, by simp [e], .cons (by rw [if_pos e]; exact r) h2, by simp [h3]⟩
    · rw [if_neg e]
      exact ⟨u :: ws, by simp [e], .cons (by rw [if_neg e]; exact r1) h2, by simp [h3]⟩
theorem hasK_any {k : Key} : ∀ {ks : List Key} {vs : List V}, ks.length = vs.length → ((ks.zip vs).any fun kv => decide (kv.1 = k)) = hasK k ks
  | [], _, _ => rfl
  | q :: ks, [], h => by cases h
  | q :: ks, v :: vs, h => by
    rw [List.zip_cons_cons, List.any_cons, hasK_any (ks := ks) (vs := vs) (by simpa using h)]
    rfl
theorem putK_rep {K : PySem.W.Frag} {cl : String → Option Addr} {I : Hp} {k : Key} {d : D} {v : V} {ks : List Key} {xs : List D} {vs : List V} (r : Rep K cl I d v) (rs : Reps K cl I xs vs) (h : ks.length = xs.length) :
    ∃ ws, putK (ks.zip vs) k v = (putKK k ks).zip ws ∧ Reps K cl I (putKD k d ks xs) ws ∧ (putKK k ks).length = (putKD k d ks xs).length := by
  have hl : ks.length = vs.length := h.trans rs.length
  unfold putK putKK putKD
  rw [hasK_any hl]
  by_cases e : hasK k ks = true
  · rw [if_pos e, if_pos e, if_pos e]
    exact repl_rep r rs h
  · rw [if_neg e, if_neg e, if_neg e]
    refine ⟨vs ++ [v], ?_, rs.append (.cons r .nil), by simp [h]⟩
    rw [List.zip_append hl]; rfl
theorem dc_it {J : It} {n : Nat} {G : Hp → Prop} {Y : Nat → Hp → V → Hp → Prop} (w : Walk J n G Y) {g : TG} {tt : TT} {tk tv : TE} {vs : List Nat} {σ : St} {H1 : Hp} {D : Addr} {Qd : Hp → Prop} (Pv : Nat → Hp → Prop) (h0 : Pv 0 (upd H1 D (.dK []))) (hG : ∀ i H, i ≤ n → Pv i H → G H)
    (hs : ∀ i x H H', i < n → Pv i H → Y i H x H' → g x (wipe σ vs) H' fun σ2 H2 => wipe σ2 vs = wipe σ vs ∧ tt σ2 H2 fun b H3 =>
      if b = true then tk σ2 H3 fun y H4 => tv σ2 H4 fun z H5 => ∃ kvs k, y = kV k ∧ H5 D = some (.dK kvs) ∧ kvs.length < sizeLine ∧ Pv (i + 1) (upd H5 D (.dK (putK kvs k z))) else Pv (i + 1) H3) (hd : ∀ H, Pv n H → Qd H) :
    ∃ W : Nat → Nat → Hp → Prop, (∃ m, W 0 m (upd H1 D (.dK []))) ∧ ∀ i m H, W i m H →
      (J.stop i H ∧ Qd H) ∨ (J.go i H ∧ ∃ Nx : Hp → Prop, (∀ H', Nx H' → ∃ m', m' < m ∧ W (i + 1) m' H') ∧ ∀ x H', J.yld i H x H' → g x (wipe σ vs) H' fun σ2 H2 => wipe σ2 vs = wipe σ vs ∧ tt σ2 H2 fun b H3 =>
        if b = true then tk σ2 H3 fun y H4 => tv σ2 H4 fun z H5 => ∃ kvs k, y = kV k ∧ H5 D = some (.dK kvs) ∧ kvs.length < sizeLine ∧ Nx (upd H5 D (.dK (putK kvs k z))) else Nx H3) := by
  refine ⟨fun i m H => m = n - i ∧ i ≤ n ∧ Pv i H, ⟨n, by simp, Nat.zero_le _, h0⟩, ?_⟩
  rintro i m H ⟨rfl, hi, p⟩
  have q := hG i H hi p
  by_cases hlt : i < n
  · refine .inr ⟨w.goes i H hlt q, Pv (i + 1), fun H' p' => ⟨n - (i + 1), by omega, rfl, hlt, p'⟩, fun x H' y => hs i x H H' hlt p (w.yields i H x H' hlt q y)⟩
  · have e : i = n := by omega
    subst e
    exact .inl ⟨w.stops H q, hd H p⟩
def dcLoop (gf : D → En → Option En) (mt : MT) (mk mv : ME) (vs : List Nat) : List D → List Key → List D → En → Option (List Key × List D × En)
  | [], ks, xs, env => some (ks, xs, env)
  | d :: ds, ks, xs, env => (gf d (wipeE env vs)).bind fun e1 => (mt e1).bind fun p =>
    if p.1 then (mk p.2).bind fun q => (q.1.key?).bind fun k => (mv q.2).bind fun r => if xs.length < sizeLine then dcLoop gf mt mk mv vs ds (putKK k ks) (putKD k r.1 ks xs) r.2 else none
    else dcLoop gf mt mk mv vs ds ks xs p.2
def mDc (vs : List Nat) (mi : MI) (gf : D → En → Option En) (mt : MT) (mk mv : ME) : ME := fun env => (mi env).bind fun p => if calmAt p.2 vs = true then (dcLoop gf mt mk mv vs p.1 [] [] p.2).map fun q => (.dic q.1 q.2.1, backE p.2 (wipeE q.2.2 vs) vs) else none
theorem dc_sf {wi : TI} {gt : TG} {tt : TT} {tk tv : TE} {vs : List Nat} {mi : MI} {gf : D → En → Option En} {mt : MT} {mk mv : ME} {ix : List Nat} (hnd : vs.Nodup) (hix : ∀ i ∈ ix, i ∈ vs) (i2 : SI Z wi mi)
    (g2 : ∀ (g : G) (env : En) (σ : St) (I H : Hp) (d : D) (v : V) (Q : St → Hp → Prop) (env' : En), SR Z.K Z.cl g env σ I H → Rep Z.K Z.cl I d v → gf d env = some env' →
      (∀ σ', SR Z.K Z.cl g env' σ' I H → (∀ vs, (∀ i ∈ ix, i ∈ vs) → wipe σ' vs = wipe σ vs) → Q σ' H) → gt v σ H Q)
    (t2 : ST Z tt mt) (k2 : SE Z tk mk) (v2 : SE Z tv mv) : SF Z (tDc wi gt tt tk tv vs) (mDc vs mi gf mt mk mv) := by
  intro g env σ I H Q d env' R hm k
  unfold mDc at hm
  cases e1 : mi env with
  | none => rw [e1] at hm; cases hm
  | some p =>
    obtain ⟨ds, en⟩ := p
    rw [e1] at hm; simp only [Option.bind_some] at hm
    split at hm
    · rename_i hcalm
      cases e3 : dcLoop gf mt mk mv vs ds [] [] en with
      | none => rw [e3] at hm; cases hm
      | some q =>
        obtain ⟨kf, fin, enf⟩ := q
        rw [e3] at hm; cases hm
        refine i2 g env σ I H _ ds en R e1 fun J I1 H1 R1 s1 wd L hL => ?_
        obtain ⟨Gd, Y, hw, hgd, hy⟩ := wd
        have hX : ∀ u, (L, u) ∉ g.X := (R1.new (o := .dK []) hL).x
        refine dc_it hw (fun i H' => ∃ env' I' ks acc av, SR Z.K Z.cl (g.beside L (.dK (ks.zip av))) (wipeE env' vs) (wipe σ vs) I' H' ∧ Same I1 I' ∧ Reps Z.K Z.cl I' acc av ∧ ks.length = acc.length ∧ dcLoop gf mt mk mv vs (ds.drop i) ks acc env' = some (kf, fin, enf))
          ⟨en, I1, [], [], [], ((R1.alloc hL _).put (R1.new hL)).wipe vs, Same.refl _, .nil, rfl, e3⟩ (fun i H' _ ⟨env', I', ks, acc, av, R', s', _⟩ => hgd I' H' s' R'.sub) ?_ ?_
        · rintro i x H2 H3 hlt ⟨env2, I2, ks, acc, av, R2, s2, ra, hlen0, hm2⟩ hyld
          have hd : ds[i]? = some ds[i] := List.getElem?_eq_getElem hlt
          have hdrop : ds.drop i = ds[i] :: ds.drop (i + 1) := List.drop_eq_getElem_cons hlt
          rw [hdrop] at hm2
          obtain ⟨I3, R3, s3, r3⟩ := hy i ds[i] _ _ _ I2 H2 x H3 hd s2 R2 hyld
          unfold dcLoop at hm2
          cases q1 : gf ds[i] (wipeE env2 vs) with
          | none => rw [q1] at hm2; cases hm2
          | some en3 =>
            rw [q1] at hm2; simp only [Option.bind_some] at hm2
            refine g2 _ _ _ I3 H3 ds[i] x _ en3 R3 r3 q1 fun σ4 R4 w4 => ?_
            have hwp : wipe σ4 vs = wipe σ vs := by
              rw [w4 vs hix]
              have ww : ∀ (ws us : List Nat) (τ : St), (∀ u ∈ us, u ∈ ws) → wipe (wipe τ us) ws = wipe τ ws := by
                intro ws us
                induction us with
                | nil => intro τ _; rfl
                | cons u us ih =>
                  intro τ hu
                  show wipe ((wipe τ us).set u none) ws = wipe τ ws
                  rw [wipe_set (hu u List.mem_cons_self), ih τ fun v hv => hu v (List.mem_cons_of_mem _ hv)]
              exact ww vs vs σ fun _ h => h
            refine ⟨hwp, ?_⟩
            cases q2 : mt en3 with
            | none => rw [q2] at hm2; cases hm2
            | some p2 =>
              obtain ⟨b, en4⟩ := p2
              rw [q2] at hm2; simp only [Option.bind_some] at hm2
              refine t2 _ _ _ I3 H3 _ b en4 R4 q2 fun I5 H5 R5 s5 => ?_
              cases b with
              | false =>
                simp only [Bool.false_eq_true, if_false] at hm2 ⊢
                have R6 := R5.wipe vs
                rw [hwp] at R6
                exact ⟨en4, I5, ks, acc, av, R6, (s2.trans s3).trans s5, ra.mono (s3.trans s5), hlen0, hm2⟩
              | true =>
                simp only [if_true] at hm2 ⊢
                cases q3 : mk en4 with
                | none => rw [q3] at hm2; cases hm2
                | some p3 =>
                  obtain ⟨y, en5⟩ := p3
                  rw [q3] at hm2; simp only [Option.bind_some] at hm2
                  cases q4 : y.key? with
                  | none => rw [q4] at hm2; cases hm2
                  | some ky =>
                    rw [q4] at hm2; simp only [Option.bind_some] at hm2
                    cases q5 : mv en5 with
                    | none => rw [q5] at hm2; cases hm2
                    | some p4 =>
                      obtain ⟨z, en6⟩ := p4
                      rw [q5] at hm2; simp only [Option.bind_some] at hm2
                      split at hm2
                      · rename_i hlen
                        refine k2 _ _ _ I5 H5 _ y en5 R5 q3 fun v I6 H6 R6 s6 rv => ?_
                        refine v2 _ _ _ I6 H6 _ z en6 R6 q5 fun u I7 H7 R7 s7 ru => ?_
                        have ra7 := ra.mono (((s3.trans s5).trans s6).trans s7)
                        obtain ⟨ws, w1, w2, w3⟩ := putK_rep (k := ky) ru ra7 hlen0
                        refine ⟨_, ky, key_rep (H := H7) q4 (.inl rv), (R7.ex L _ List.mem_cons_self).1, by rw [List.length_zip]; have := ra.length; omega, en6, I7, putKK ky ks, putKD ky z ks acc, ws, ?_, (((s2.trans s3).trans s5).trans s6).trans s7, w2, w3, hm2⟩
                        have R8 := (R7.exSet (o' := .dK ((putKK ky ks).zip ws)) hX).wipe vs
                        rw [hwp] at R8
                        rw [w1]
                        exact R8
                      · cases hm2
        · rintro H2 ⟨env2, I2, ks, acc, av, R2, s2, ra, hlen0, hm2⟩
          rw [List.drop_length] at hm2
          cases hm2
          have R3 := SR.back R1 vs hnd hcalm R2 s2
          obtain ⟨R4, n4⟩ := R3.take hX
          exact k L _ I2 H2 R4 (s1.trans s2) n4 (.dic ra hlen0)
    · cases hm
theorem ef_dc {kx vx tg iter : Expr} {ifs : List Expr} {scope : Scope} {own : List (Str × Nat)} {pos : Pos} {mi : MI} {ix : List Nat} {gf : D → En → Option En} {mt : MT} {mk mv : ME} (hi : IV Z tg iter mi) (ok : BlkOk Z.N Z.sc scope own) (hg : GV (ZB Z scope) tg ix gf) (ht : CV (ZB Z scope) ifs mt)
    (hk : EV (ZB Z scope) kx mk) (hv : EV (ZB Z scope) vx mv) (hnd : (own.map (·.2)).Nodup := by decide) (hix : ∀ i ∈ ix, i ∈ own.map (·.2) := by decide) (hs : ∀ env x, foldedSetIterable iter env x = pure x := by intro _ _; rfl) : EF Z (.DictComp kx vx [⟨tg, iter, ifs, 0⟩] scope pos) (mDc (own.map (·.2)) mi gf mt mk mv) := by
  obtain ⟨wi, i1, i2⟩ := hi
  obtain ⟨gt, g1, g2⟩ := hg
  obtain ⟨tt, t1, t2⟩ := ht
  obtain ⟨tk, k1, k2⟩ := hk
  obtain ⟨tv, v1, v2⟩ := hv
  exact ⟨_, fun X k => pe_dc k.calm k.nd (i1 X k) (by rw [k.N, k.sc]; exact ok) (fun s H C cl fp => g1 _ (inB k s H C cl fp)) (fun s H C cl fp => t1 _ (inB k s H C cl fp)) (fun s H C cl fp => k1 _ (inB k s H C cl fp)) (fun s H C cl fp => v1 _ (inB k s H C cl fp)) (hs _), dc_sf hnd hix i2 g2 t2 k2 v2⟩
section
open PySem.Spec PyProof.Rows
variable {X : Cx}
theorem ps_putDc {slot : Nat} {nm : Str} {pn : Pos} {kx vx tg iter : Expr} {ifs : List Expr} {scope : Scope} {own : List (Str × Nat)} {cp sp : Pos} {wi : TI} {gg : TG} {tt : TT} {tk tv : TE} (hcalm : X.calm = true) (hnod : X.N.Nodup)
    (hslot : X.N[slot]? = some nm) (hloc : X.env.scope.names.lookup nm = some .local) (hswap : swapsWith (.DictComp kx vx [⟨tg, iter, ifs, 0⟩] scope cp) (some (.Name nm pn)) sp.line X.env = pure true)
    (hit : PI X tg iter wi) (hblk : BlkOk X.N X.env.scope scope own)
    (h1 : ∀ s H C cl fp, PG (X.blk s H scope (compEnvC scope cl C X.env) fp) tg gg) (h2 : ∀ s H C cl fp, PTs (X.blk s H scope (compEnvC scope cl C X.env) fp) ifs tt)
    (h3 : ∀ s H C cl fp, PE (X.blk s H scope (compEnvC scope cl C X.env) fp) kx tk) (h4 : ∀ s H C cl fp, PE (X.blk s H scope (compEnvC scope cl C X.env) fp) vx tv)
    (hfold : ∀ v, foldedSetIterable iter X.env v = pure v) :
    PS X (.Assign [.Name nm pn] (.DictComp kx vx [⟨tg, iter, ifs, 0⟩] scope cp) sp) (tAsg (tDc wi gg tt tk tv (own.map (·.2))) (gName slot)) := by
  constructor
  intro pins s σ H D J hq
  rw [exec_Assign_Name_used _ _ _ _ hswap]
  refine wpAny_bind (wpAny_standAt (wpAny_bind ?_))
  show wpAny _ X.A (do let _ ← comprehension (.DictComp kx vx [⟨tg, iter, ifs, 0⟩] scope cp) scope X.env (firstIterPos [⟨tg, iter, ifs, 0⟩] cp) newDict false (eval iter X.env) (some (assign (.Name nm pn) X.env))) _ _ s
  have hq' : tDc wi gg tt tk tv (own.map (·.2)) σ H (fun x H1 => gName slot x σ H1 D.nx) := hq
  have core := dc_core (Qf := fun _ s' => SP X pins D .next s') hcalm hnod J hit hblk h1 h2 h3 h4 hfold hq' (use := some (assign (.Name nm pn) X.env)) (pos := cp) (pos' := firstIterPos [⟨tg, iter, ifs, 0⟩] cp) (fun L C s' m H' J' qq hn fr => by
    show wpAny _ _ (assign (.Name nm pn) X.env (.ref L)) _ _ _
    refine wpAny_assign_Name (store_ok2 (v := V.ref L) J' hnod hslot (.inl hloc) rfl (fun s2 J2 hs2 => ?_) (.inr hloc))
    obtain ⟨a, sb, ha⟩ := hs2
    obtain ⟨r0, r1, r2, r3, r4, r5⟩ := fr
    have hne : C ≠ a := ha.elim (fun z => z ▸ r1) (fun z e => r4 nm a z e.symm)
    exact ⟨m, hn.sameBut sb hne, fun h9 sb9 => ⟨_, H', J2.turned (t' := s2.toks) (fun b o hb e => (sb9.2 b hb).trans e) r0 r1 r3 r4 r5, qq⟩⟩)
  exact wpAny_bind (thn core fun _ s' hq2 => wpAny_pure (wpAny_pure hq2))
end
theorem swap_dc {kx vx : Expr} {gs : List Comprehension} {scope : Scope} {cp pn : Pos} {nm : Str} {l : Nat} {env : Env} (hk : env.scope.kind = .function) (hy : env.scope.names.lookup nm = some .local) (hl : (pn.line == cp.line) = true)
    (ha : (scope.names.any fun q => q.1 == nm && (q.2 == .local || q.2 == .cell)) = false) : swapsWith (.DictComp kx vx gs scope cp) (some (.Name nm pn)) l env = pure true := by
  have e1 : env.kindOf nm = some .local := hy
  have e2 : env.blockKind = .function := by unfold Env.blockKind; rw [hk]; rfl
  unfold swapsWith
  simp only [e1, e2, Expr.pos, hl]
  have ha' : (scope.names.any fun (n, k) => n == nm && (k == .local || k == .cell)) = false := ha
  rw [ha']
  rfl
theorem sv_asgDc {i : Nat} {y : Str} {py : Pos} {kx vx tg iter : Expr} {ifs : List Expr} {scope : Scope} {own : List (Str × Nat)} {pos spos : Pos} {mi : MI} {ix : List Nat} {gf : D → En → Option En} {mt : MT} {mk mv : ME} (hN : Z.N[i]? = some y) (hy : Z.sc.names.lookup y = some .local)
    (hk : Z.sc.kind = .function) (hl : (py.line == pos.line) = true := by rfl) (ha : (scope.names.any fun q => q.1 == y && (q.2 == .local || q.2 == .cell)) = false := by decide +kernel)
    (hi : IV Z tg iter mi) (ok : BlkOk Z.N Z.sc scope own) (hg : GV (ZB Z scope) tg ix gf) (ht : CV (ZB Z scope) ifs mt)
    (hkx : EV (ZB Z scope) kx mk) (hvx : EV (ZB Z scope) vx mv) (hnd : (own.map (·.2)).Nodup := by decide) (hix : ∀ i ∈ ix, i ∈ own.map (·.2) := by decide) (hs : ∀ env x, foldedSetIterable iter env x = pure x := by intro _ _; rfl) :
    SV Z (.Assign [.Name y py] (.DictComp kx vx [⟨tg, iter, ifs, 0⟩] scope pos) spos) (mAsgF i (mDc (own.map (·.2)) mi gf mt mk mv)) := by
  obtain ⟨wi, i1, i2⟩ := hi
  obtain ⟨gt, g1, g2⟩ := hg
  obtain ⟨tt, t1, t2⟩ := ht
  obtain ⟨tk, k1, k2⟩ := hkx
  obtain ⟨tv, v1, v2⟩ := hvx
  refine ⟨_, fun X k => ps_putDc k.calm k.nd (by rw [k.N]; exact hN) (by rw [k.sc]; exact hy) (swap_dc (by rw [k.sc]; exact hk) (by rw [k.sc]; exact hy) hl ha) (i1 X k) (by rw [k.N, k.sc]; exact ok) (fun s H C cl fp => g1 _ (inB k s H C cl fp)) (fun s H C cl fp => t1 _ (inB k s H C cl fp)) (fun s H C cl fp => k1 _ (inB k s H C cl fp)) (fun s H C cl fp => v1 _ (inB k s H C cl fp)) (hs _), fun g env σ I H D fl R hm k => ?_⟩
  unfold mAsgF at hm
  cases q1 : mDc (own.map (·.2)) mi gf mt mk mv env with
  | none => rw [q1] at hm; cases hm
  | some r =>
    rw [q1] at hm
    simp only [Option.bind_some] at hm
    split at hm
    · rename_i hi
      cases hm
      exact dc_sf hnd hix i2 g2 t2 k2 v2 g env σ I H _ r.1 r.2 R q1 fun a o I1 H1 R1 s1 n ro => k _ I1 H1 (R1.setOwn (by rw [← R1.len]; exact hi) n ro) s1
    · cases hm
end
end Q
namespace Q
open PySem L2
section
variable {Z : Zc}
/-! -n -/
def mNeg (a : ME) : ME := fun env => (a env).bind fun p => match p.1 with
  | .int i => some (.int (-i), p.2)
  | _ => none
theorem ev_neg {e : Expr} {m : ME} {pos : Pos} (h : EV Z e m) : EV Z (.UnaryOp .USub e pos) (mNeg m) := by
  obtain ⟨t, h1, h2⟩ := h
  refine ⟨_, fun X i => pe_un un_neg (h1 X i), fun g env σ I H Q d env' R hm k => ?_⟩
  unfold mNeg at hm
  cases e1 : m env with
  | none => rw [e1] at hm; cases hm
  | some p =>
    obtain ⟨x, en⟩ := p
    rw [e1] at hm
    simp only [Option.bind_some] at hm
    cases x <;> first | cases hm | skip
    exact h2 g env σ I H _ _ _ R e1 fun v I1 H1 R1 s1 rv => ⟨_, rv.int_inv, k _ I1 H1 R1 s1 .int⟩
end
/-- one program, as its top has left it -/
structure Pc where
  P : Program
  w : World
  K : PySem.W.Frag
  mg : Str → Option Value
  base : Heap
  cl : String → Option Addr
abbrev Pc.z (c : Pc) (k : Nat) (N : List Str) (sc : Scope) (me : Option (Addr × Addr) := none) : Zc := ⟨c.P, c.w, c.K, c.mg, c.base, N, sc, k, c.cl, true, me⟩
structure FnC (c : Pc) (k : Nat) (x : Str) (N : List Str) (np : Nat) (mf : MS) : Prop where
  ex : ∃ (f : Addr) (fd : FuncData) (ps : List Str), FnG c.P c.w c.K c.mg c.base CX0 k f fd ps (spM c.K c.cl N np mf) ∧ c.mg x = some (.ref f) ∧ PySem.W.keepIn c.K (.ref f) = true ∧ Binds c.K fd ps []
structure MtC (c : Pc) (k : Nat) (cn : String) (m : Str) (N : List Str) (np : Nat) (mf : MS) : Prop where
  ex : ∃ (C f : Addr) (fd : FuncData) (ps : List Str), c.cl cn = some C ∧ Cls c.K C ∧ Meth c.K C m f ∧ FnG c.P c.w c.K c.mg c.base CX0 k f fd ps (spM c.K c.cl N np mf) ∧ Binds c.K fd ps []
structure MkC (c : Pc) (k : Nat) (x : Str) (cn : String) (N : List Str) (np : Nat) (mf : MS) : Prop where
  ex : ∃ (C f : Addr) (fd : FuncData) (ps : List Str), c.cl cn = some C ∧ c.mg x = some (.ref C) ∧ Mk c.K C f ∧ FnG c.P c.w c.K c.mg c.base CX0 k f fd ps (spM c.K c.cl N np mf) ∧ Binds c.K fd ps []
section
variable {c : Pc} {j k np : Nat} {x m : Str} {cn : String} {N M : List Str} {mf : MS} {sc s1 : Scope} {me : Option (Addr × Addr)}
theorem FnC.z (F : FnC c j x M np mf) (h : j ≤ k) : FnZ (c.z k N sc me) x M np mf := let ⟨f, fd, ps, h1, h2⟩ := F.ex; ⟨f, fd, ps, h1.mono h, h2⟩
theorem FnC.zb (F : FnC c j x M np mf) (h : j ≤ k) : FnZ (ZB (c.z k N sc me) s1) x M np mf := let ⟨f, fd, ps, h1, h2⟩ := F.ex; ⟨f, fd, ps, h1.mono h, h2⟩
theorem MtC.z (F : MtC c j cn m M np mf) (h : j ≤ k) : MtZ (c.z k N sc me) cn m M np mf := let ⟨C, f, fd, ps, q1, q2, q3, h1, h2⟩ := F.ex; ⟨C, f, fd, ps, q1, q2, q3, h1.mono h, h2⟩
theorem MtC.zb (F : MtC c j cn m M np mf) (h : j ≤ k) : MtZ (ZB (c.z k N sc me) s1) cn m M np mf := let ⟨C, f, fd, ps, q1, q2, q3, h1, h2⟩ := F.ex; ⟨C, f, fd, ps, q1, q2, q3, h1.mono h, h2⟩
theorem MkC.z (F : MkC c j x cn M np mf) (h : j + 1 ≤ k) : MkZ (c.z k N sc me) x cn M np mf := let ⟨C, f, fd, ps, q1, q2, q3, h1, h2⟩ := F.ex; ⟨j, C, f, fd, ps, h, q1, q2, q3, h1, h2⟩
theorem MkC.zb (F : MkC c j x cn M np mf) (h : j + 1 ≤ k) : MkZ (ZB (c.z k N sc me) s1) x cn M np mf := let ⟨C, f, fd, ps, q1, q2, q3, h1, h2⟩ := F.ex; ⟨j, C, f, fd, ps, h, q1, q2, q3, h1, h2⟩
end
theorem tabKey_ne (x s : String) (h : s.toList.getLast? ≠ some '#') (e : tabKey x = s) : False := by
  apply h
  rw [← e]
  unfold tabKey
  rw [String.toList_append]
  show (x.toList ++ ['#']).getLast? = _
  simp
/-- what the law's def is handed -/
theorem spLaw_of {K : PySem.W.Frag} {cl : String → Option Addr} {N : List Str} {m : MS} {a : Addr} {ns : List Int} {H : Hp} {Q : VK} {E : XK} {env' : En} {md : Md} (hN : N.length = N.length) (hT : ∀ b, IsTab cl b → GxR.TabG H b) (hS0 : ∃ J, Same J H ∧ (∀ b, IsTab cl b → J b = none) ∧ SqL K J a (ns.map V.int))
    (hm : m (Sl.imm (.scr (ns.map D.int)) :: List.replicate (N.length - 1) Sl.un) = some (.ret .imm (.bl true) env')) (hQ : ∀ H', Q (.bl true) H') : spM K cl N 1 m [.ref a] H Q E := by
  obtain ⟨J, hJ, hJt, hS⟩ := hS0
  have rs : ∀ (l : List Int), Reps K cl J (l.map D.int) (l.map V.int) := fun l => by
    induction l with
    | nil => exact .nil
    | cons x l ih => exact .cons .int ih
  refine ⟨rfl, ⟨J, H, [], []⟩, _, J, _, ⟨hJ, Same.refl _, fun a o h _ _ => h, fun a o _ h => h, (fun a h => by cases h), ?_, fun i s h => ?_, ?_, (fun a o h => by cases h), (fun a o h => by cases h), fun b hb => ⟨hJt b hb, hT b hb, let ⟨ps, h, _⟩ := hT b hb; ⟨_, h⟩⟩⟩, hm, ?_⟩
  · unfold L2.start; simp
  · cases i with
    | zero =>
      cases h
      exact ⟨_, rfl, .ref a, rfl, .scr hS (rs ns)⟩
    | succ i =>
      rw [List.getElem?_cons_succ, List.getElem?_replicate] at h
      split at h
      · rename_i hlt
        cases h
        refine ⟨none, ?_, trivial⟩
        unfold L2.start
        rw [List.getElem?_append_right (by simp), List.getElem?_replicate]
        simp only [List.length_map, List.length_cons, List.length_nil, Nat.zero_add, Nat.add_sub_cancel]
        rw [if_pos hlt]
      · cases h
  · intro i j s s' a' hne h1 h2 m1 m2
    have : s.mut = false := by
      cases i with
      | zero => cases h1; rfl
      | succ i =>
        rw [List.getElem?_cons_succ, List.getElem?_replicate] at h1
        split at h1
        · cases h1; rfl
        · cases h1
    rw [this] at m1; cases m1
  · intro σ' I' H' v R s r
    cases r.bl_inv
    exact hQ H'
end Q
namespace Q
open PySem L2
section
variable {Z : Zc}
/-! ## {} and d[k] = v of an own dict -/
def mDic0 : ME := fun env => some (.dic [] [], env)
theorem ef_dic0 {pos : Pos} : EF Z (.Dict [] [] pos) mDic0 := by
  refine ⟨_, fun X i => pe_dnewK, fun g env σ I H Q d env' R hm k => ?_⟩
  cases hm
  exact fun q hq => k q _ I _ (R.alloc hq _) (Same.refl I) (R.new hq) (ObjRep.dic (ks := []) (xs := []) (vs := []) .nil rfl)
def ownD (env : En) (i : Nat) : Option (List Key × List D) := (env[i]?).bind fun s => (s.own?).bind fun d => match d with
  | .dic ks xs => some (ks, xs)
  | _ => none
theorem ownD_inv {env : En} {i : Nat} {ks : List Key} {xs : List D} (h : ownD env i = some (ks, xs)) : ∃ s, env[i]? = some s ∧ s.own? = some (.dic ks xs) := by
  unfold ownD at h
  cases e : env[i]? with
  | none => rw [e] at h; cases h
  | some s =>
    rw [e] at h
    simp only [Option.bind_some] at h
    cases e2 : s.own? with
    | none => rw [e2] at h; cases h
    | some d =>
      rw [e2] at h
      simp only [Option.bind_some] at h
      cases d <;> first | (cases h; exact ⟨s, rfl, e2⟩) | cases h
theorem own_dict {g : G} {env : En} {σ : St} {I H : Hp} {i : Nat} {ks : List Key} {xs : List D} (R : SR Z.K Z.cl g env σ I H) (h : ownD env i = some (ks, xs)) :
    ∃ s a vs, env[i]? = some s ∧ s.own? = some (.dic ks xs) ∧ σ[i]? = some (some (.ref a)) ∧ H a = some (.dK (ks.zip vs)) ∧ Reps Z.K Z.cl I xs vs ∧ ks.length = xs.length := by
  obtain ⟨s, h1, h2⟩ := ownD_inv h
  obtain ⟨a, o, h3, h4, h5, h6⟩ := own_at R h1 h2
  obtain ⟨vs, rfl, r, l⟩ := h5.dic_inv
  exact ⟨s, a, vs, h1, h2, h3, h4, r, l⟩
def mSetD (i : Nat) (e j : ME) : MS := fun env => (e env).bind fun p => (ownD p.2 i).bind fun _ => (j p.2).bind fun q => (ownD q.2 i).bind fun kx => (q.1.key?).bind fun k =>
  if kx.2.length < sizeLine then some (.nx (putS q.2 i (.dic (putKK k kx.1) (putKD k p.1 kx.1 kx.2)))) else none
theorem sv_setD {i : Nat} {x : Str} {e j : Expr} {me mj : ME} {p p1 pos : Pos} (hN : Z.N[i]? = some x) (hv : Vis Z.sc x) (he : EV Z e me) (hj : EV Z j mj) (hd : (x == ("__debug__" : Str)) = false := by decide) (hcd : (x == ("__classdict__" : Str)) = false := by decide)
    (hs : ∀ env, swapsWith e (some (.Subscript (.Name x p) j p1)) pos.line env = pure false := by intro _; rfl) :
    SV Z (.Assign [.Subscript (.Name x p) j p1] e pos) (mSetD i me mj) := by
  obtain ⟨t, q1, q2⟩ := he
  obtain ⟨u, j1, j2⟩ := hj
  refine ⟨_, fun X k => ps_dput (huOf k) (pe_var (by rw [k.N]; exact hN) (visOf k hv) hd hcd) (j1 X k) (q1 X k) (hs _), fun g env σ I H D fl R hm k => ?_⟩
  unfold mSetD at hm
  cases e1 : me env with
  | none => rw [e1] at hm; cases hm
  | some r =>
    obtain ⟨y, en⟩ := r
    rw [e1] at hm; simp only [Option.bind_some] at hm
    cases e2 : ownD en i with
    | none => rw [e2] at hm; cases hm
    | some r0 =>
      obtain ⟨ks0, xs0⟩ := r0
      rw [e2] at hm; simp only [Option.bind_some] at hm
      cases e3 : mj en with
      | none => rw [e3] at hm; cases hm
      | some r =>
        obtain ⟨n, en2⟩ := r
        rw [e3] at hm; simp only [Option.bind_some] at hm
        cases e4 : ownD en2 i with
        | none => rw [e4] at hm; cases hm
        | some r1 =>
          obtain ⟨ks, xs⟩ := r1
          rw [e4] at hm; simp only [Option.bind_some] at hm
          cases e5 : n.key? with
          | none => rw [e5] at hm; cases hm
          | some q =>
            rw [e5] at hm; simp only [Option.bind_some] at hm
            split at hm
            · rename_i hl
              cases hm
              refine q2 g env σ I H _ y en R e1 fun v I1 H1 R1 s1 rv => ?_
              obtain ⟨s0, a0, vs0, h1, h2, h3, h4, _, _⟩ := own_dict R1 e2
              refine ⟨.ref a0, h3, ?_⟩
              refine j2 g en σ I1 H1 _ _ en2 R1 e3 fun w I2 H2 R2 s2 rw' => ?_
              obtain ⟨s, a, vs, h5, h6, h7, h8, h9, h10⟩ := own_dict R2 e4
              rw [h3] at h7
              cases h7
              obtain ⟨ws, h11, h12, h13⟩ := putK_rep (k := q) (rv.mono s2) h9 h10
              have hk : w = kV q := key_rep (H := H2) e5 (.inl rw')
              subst hk
              have hzl : (ks.zip vs).length < sizeLine := by rw [List.length_zip, ← h9.length, h10, Nat.min_self]; exact hl
              refine ⟨a0, _, rfl, DPut.k h8 hzl, ?_⟩
              rw [h11]
              have R3 := R2.mutate h5 h6 h3 (.dic h12 h13)
              have e6 : putS en2 i (.dic (putKK q ks) (putKD q y ks xs)) = en2.set i (s.put (.dic (putKK q ks) (putKD q y ks xs))) := by unfold putS; rw [h5]
              rw [e6] at k
              exact k σ I2 _ R3 (s1.trans s2)
            · cases hm
end
end Q
namespace Q
open PySem L2
section
variable {Z : Zc}
/-! ## methods of a text -/
def mM0 (f : Str → Option D) (a : ME) : ME := fun env => (a env).bind fun p => match p.1 with
  | .str z => (f z).map fun d => (d, p.2)
  | _ => none
def RuleM0 (r : V → List V → Hp → VK → Prop) (f : Str → Option D) : Prop := ∀ (z : Str) (d : D) (K : PySem.W.Frag) (cl : String → Option Addr) (I H : Hp) (Q : VK), f z = some d → (∀ v, Rep K cl I d v → Q v H) → r (.str z) [] H Q
theorem ev_m0 {id : String} {name : Str} {o : Expr} {apos pos : Pos} {r : V → List V → Hp → VK → Prop} {f : Str → Option D} {mo : ME} (slot : Slot "str" name id) (ty : typeOf (.builtin id) = pure (.type "method_descriptor")) (rule : ∀ X : Cx, MtR X id r) (ok : RuleM0 r f) (ho : EV Z o mo)
    (hbase : ∀ env, attributeBase o name env (eval o env) = eval o env := by intro _; rfl) (hline : (apos.endLine == pos.line) = true := by rfl) : EV Z (.Call (.Attribute o name apos) [] [] pos) (mM0 f mo) := by
  obtain ⟨t, h1, h2⟩ := ho
  refine ⟨_, fun X i => pe_m0 slot ty (rule X) (h1 X i) (hbase _) hline, fun g env σ I H Q d env' R hm k => ?_⟩
  unfold mM0 at hm
  cases e1 : mo env with
  | none => rw [e1] at hm; cases hm
  | some p =>
    obtain ⟨x, en⟩ := p
    rw [e1] at hm; simp only [Option.bind_some] at hm
    cases x <;> first | cases hm | skip
    rename_i z
    dsimp only at hm
    cases e2 : f z with
    | none => rw [e2] at hm; cases hm
    | some y =>
      rw [e2] at hm; cases hm
      refine h2 g env σ I H _ _ _ R e1 fun v I1 H1 R1 s1 rv => ?_
      cases rv.str_inv
      exact ⟨⟨z, rfl⟩, ok z d Z.K Z.cl I1 H1 _ e2 fun v hv => k v I1 H1 R1 s1 hv⟩
def fUpper : Str → Option D := fun z => if z.length ≤ 5592405 then some (.str (Txt.upper z)) else none
def fIslower : Str → Option D := fun z => some (.bl (Txt.islower z))
theorem ev_upper {o : Expr} {apos pos : Pos} {mo : ME} (ho : EV Z o mo) (hbase : ∀ env, attributeBase o "upper" env (eval o env) = eval o env := by intro _; rfl) (hline : (apos.endLine == pos.line) = true := by rfl) : EV Z (.Call (.Attribute o "upper" apos) [] [] pos) (mM0 fUpper mo) :=
  ev_m0 F.slot_str_upper F.type_str_upper (fun X => mt_upper) (fun z d K cl I H Q h k => by
    unfold fUpper at h
    split at h
    · rename_i hl; cases h; exact ⟨z, rfl, rfl, hl, k _ .str⟩
    · cases h) ho hbase hline
theorem ev_islower {o : Expr} {apos pos : Pos} {mo : ME} (ho : EV Z o mo) (hbase : ∀ env, attributeBase o "islower" env (eval o env) = eval o env := by intro _; rfl) (hline : (apos.endLine == pos.line) = true := by rfl) : EV Z (.Call (.Attribute o "islower" apos) [] [] pos) (mM0 fIslower mo) :=
  ev_m0 F.slot_str_islower F.type_str_islower (fun X => mt_islower) (fun z d K cl I H Q h k => by cases h; exact ⟨z, rfl, rfl, trivial, k _ .bl⟩) ho hbase hline
def mM1 (f : Str → Str → Option D) (a b : ME) : ME := fun env => (a env).bind fun p => (b p.2).bind fun q => match p.1, q.1 with
  | .str x, .str y => (f x y).map fun d => (d, q.2)
  | _, _ => none
def RuleM1 (r : V → List V → Hp → VK → Prop) (f : Str → Str → Option D) : Prop := ∀ (x y : Str) (d : D) (K : PySem.W.Frag) (cl : String → Option Addr) (I H : Hp) (Q : VK), f x y = some d → (∀ v, Rep K cl I d v → Q v H) → r (.str x) [.str y] H Q
def RuleM1N (r : V → List V → Hp → VK → Prop) (f : Str → Str → Option D) : Prop := ∀ (x y : Str) (d : D) (K : PySem.W.Frag) (cl : String → Option Addr) (I H : Hp) (Q : VK), f x y = some d → (∀ p o, H p = none → ObjRep K cl I d o → Q (.ref p) (upd H p o)) → r (.str x) [.str y] H Q
theorem mM1_inv {f : Str → Str → Option D} {a b : ME} {env env' : En} {d : D} (h : mM1 f a b env = some (d, env')) : ∃ x e1 y, a env = some (.str x, e1) ∧ b e1 = some (.str y, env') ∧ f x y = some d := by
  unfold mM1 at h
  obtain ⟨⟨d1, e1⟩, h1, h⟩ := Option.bind_eq_some_iff.mp h
  obtain ⟨⟨d2, e2⟩, h2, h⟩ := Option.bind_eq_some_iff.mp h
  cases d1 with
  | str x =>
    cases d2 with
    | str y =>
      obtain ⟨z, h3, h4⟩ := Option.map_eq_some_iff.mp h
      cases h4
      exact ⟨x, e1, y, h1, h2, h3⟩
    | _ => cases h
  | _ => cases h
theorem ev_m1 {id : String} {name : Str} {o e : Expr} {apos pos : Pos} {r : V → List V → Hp → VK → Prop} {f : Str → Str → Option D} {mo me : ME} (slot : Slot "str" name id) (ty : typeOf (.builtin id) = pure (.type "method_descriptor")) (rule : ∀ X : Cx, MtR X id r) (ok : RuleM1 r f) (ho : EV Z o mo) (he : EV Z e me)
    (hs : ∀ env, starEach [e] env = [(false, eval e env)] := by intro _; rfl) (hbase : ∀ env, attributeBase o name env (eval o env) = eval o env := by intro _; rfl) (hline : (apos.endLine == pos.line) = true := by rfl) : EV Z (.Call (.Attribute o name apos) [e] [] pos) (mM1 f mo me) := by
  obtain ⟨t, h1, h2⟩ := ho
  obtain ⟨u, j1, j2⟩ := he
  refine ⟨_, fun X i => pe_m1 slot ty (rule X) (h1 X i) (j1 X i) (hs _) (hbase _) hline, fun g env σ I H Q d env' R hm k => ?_⟩
  obtain ⟨x, e1, y, q1, q2, q3⟩ := mM1_inv hm
  refine h2 g env σ I H _ _ _ R q1 fun v I1 H1 R1 s1 rv => ?_
  cases rv.str_inv
  refine ⟨⟨x, rfl⟩, j2 g e1 σ I1 H1 _ _ _ R1 q2 fun w I2 H2 R2 s2 rw' => ?_⟩
  cases rw'.str_inv
  exact ok x y d Z.K Z.cl I2 H2 _ q3 fun v hv => k v I2 H2 R2 (s1.trans s2) hv
theorem ef_m1 {id : String} {name : Str} {o e : Expr} {apos pos : Pos} {r : V → List V → Hp → VK → Prop} {f : Str → Str → Option D} {mo me : ME} (slot : Slot "str" name id) (ty : typeOf (.builtin id) = pure (.type "method_descriptor")) (rule : ∀ X : Cx, MtR X id r) (ok : RuleM1N r f) (ho : EV Z o mo) (he : EV Z e me)
    (hs : ∀ env, starEach [e] env = [(false, eval e env)] := by intro _; rfl) (hbase : ∀ env, attributeBase o name env (eval o env) = eval o env := by intro _; rfl) (hline : (apos.endLine == pos.line) = true := by rfl) : EF Z (.Call (.Attribute o name apos) [e] [] pos) (mM1 f mo me) := by
  obtain ⟨t, h1, h2⟩ := ho
  obtain ⟨u, j1, j2⟩ := he
  refine ⟨_, fun X i => pe_m1 slot ty (rule X) (h1 X i) (j1 X i) (hs _) (hbase _) hline, fun g env σ I H Q d env' R hm k => ?_⟩
  obtain ⟨x, e1, y, q1, q2, q3⟩ := mM1_inv hm
  refine h2 g env σ I H _ _ _ R q1 fun v I1 H1 R1 s1 rv => ?_
  cases rv.str_inv
  refine ⟨⟨x, rfl⟩, j2 g e1 σ I1 H1 _ _ _ R1 q2 fun w I2 H2 R2 s2 rw' => ?_⟩
  cases rw'.str_inv
  exact ok x y d Z.K Z.cl I2 H2 _ q3 fun p o hp ho => k p o I2 _ (R2.alloc hp _) (s1.trans s2) (R2.new hp) ho
def fCount : Str → Str → Option D := fun x y => some (.int (Txt.count x y))
theorem ev_count {o e : Expr} {apos pos : Pos} {mo me : ME} (ho : EV Z o mo) (he : EV Z e me) (hs : ∀ env, starEach [e] env = [(false, eval e env)] := by intro _; rfl) (hbase : ∀ env, attributeBase o "count" env (eval o env) = eval o env := by intro _; rfl) (hline : (apos.endLine == pos.line) = true := by rfl) :
    EV Z (.Call (.Attribute o "count" apos) [e] [] pos) (mM1 fCount mo me) :=
  ev_m1 F.slot_str_count F.type_str_count (fun X => mt_count) (fun x y d K cl I H Q h k => by cases h; exact ⟨x, y, rfl, rfl, k _ .int⟩) ho he hs hbase hline
theorem reps_strs {K : PySem.W.Frag} {cl : String → Option Addr} {I : Hp} : ∀ ys : List Str, Reps K cl I (ys.map .str) (ys.map V.str)
  | [] => .nil
  | _ :: ys => .cons .str (reps_strs ys)
def fSplit : Str → Str → Option D := fun x y => if (y.length == 0) = false ∧ x.length + 2 ≤ sizeLine then some (.lst ((Txt.split x y).map .str)) else none
theorem ef_split {o e : Expr} {apos pos : Pos} {mo me : ME} (ho : EV Z o mo) (he : EV Z e me) (hs : ∀ env, starEach [e] env = [(false, eval e env)] := by intro _; rfl) (hbase : ∀ env, attributeBase o "split" env (eval o env) = eval o env := by intro _; rfl) (hline : (apos.endLine == pos.line) = true := by rfl) :
    EF Z (.Call (.Attribute o "split" apos) [e] [] pos) (mM1 fSplit mo me) :=
  ef_m1 F.slot_str_split F.type_str_split (fun X => mt_split) (fun x y d K cl I H Q h k => by
    unfold fSplit at h
    split at h
    · rename_i hl
      cases h
      exact ⟨x, y, rfl, rfl, hl.1, hl.2, fun p hp => k p _ hp (.lst (reps_strs _))⟩
    · cases h) ho he hs hbase hline
end
end Q
namespace Q
open PySem L2
section
variable {Z : Zc}
/-! ## sorted(..) of whole numbers; sep.join(..) -/
def ordI (ns : List Int) : List Int := ns.mergeSort (fun a b => decide (a ≤ b))
theorem ordI_eq {ns ns' : List Int} (hp : ns'.Perm ns) (hs : ns'.Pairwise (· ≤ ·)) : ns' = ordI ns := by
  have h1 : (ordI ns).Pairwise (· ≤ ·) := by
    have := List.pairwise_mergeSort (le := fun a b : Int => decide (a ≤ b)) (fun a b c h1 h2 => by simp at *; omega) (fun a b => by simp; omega) ns
    exact this.imp fun h => by simpa using h
  exact List.Perm.eq_of_pairwise (fun a b _ _ h1 h2 => by omega) hs h1 (hp.trans (List.mergeSort_perm ns _).symm)
def dSorted : List D → Option D
  | [.lst ds] => (intsD ds).map fun ns => .lst ((ordI ns).map .int)
  | _ => none
theorem reps_ints {K : PySem.W.Frag} {cl : String → Option Addr} {I : Hp} : ∀ ns : List Int, Reps K cl I (ns.map .int) (ns.map V.int)
  | [] => .nil
  | _ :: ns => .cons .int (reps_ints ns)
theorem ok_sorted : RuleCN Z (rSortedI Z.K) dSorted := by
  intro I H xs z vs Q s rs h k
  unfold dSorted at h
  split at h
  · rename_i ds
    cases e2 : intsD ds with
    | none => rw [e2] at h; cases h
    | some ns =>
      rw [e2] at h
      cases h
      obtain ⟨v, rfl, r⟩ := rs.one
      obtain ⟨a, us, rfl, h1, h2⟩ := r.lst s
      have e3 := ints_rep e2 h2
      subst e3
      refine ⟨a, ns, rfl, SqL.of h1, fun ns' p hp hs hn => ?_⟩
      rw [ordI_eq hp hs]
      exact k p _ hn (.lst (reps_ints _))
  · cases h
theorem ef_sorted {e : Expr} {m : En → Option (List Ls × En)} {p pos : Pos} (hg : GlZ Z "sorted") (hm : Z.mg "sorted" = none) (ha : AL Z [e] m)
    (he : ∀ env, starEach [e] env = (false, eval e env) :: starEach [] env := by intro _; rfl) (hpl : ∀ env, (backTo pos (starEach [] env)).any (·.1) = false := by intro _; rfl) : EF Z (.Call (.Name "sorted" p) [e] [] pos) (mBi dSorted m) :=
  ef_callB (fun X h => by have := @cr_sortedI X; rw [h.K] at this; exact this) ok_sorted hg hm (by decide +kernel) ha (by decide) (by decide) he hpl
def strsD : List D → Option (List Str)
  | [] => some []
  | .str z :: ds => (strsD ds).map fun zs => z :: zs
  | _ => none
theorem strs_rep {K : PySem.W.Frag} {cl : String → Option Addr} {I : Hp} : ∀ {ds : List D} {zs : List Str} {us : List V}, strsD ds = some zs → Reps K cl I ds us → us = zs.map V.str
  | [], zs, us, h, r => by cases h; cases r; rfl
  | d :: ds, zs, us, h, r => by
    cases d with
    | str z =>
      unfold strsD at h
      obtain ⟨zs', h1, rfl⟩ := Option.map_eq_some_iff.mp h
      cases r with
      | cons r1 r2 => cases r1.str_inv; rw [strs_rep h1 r2]; rfl
    | _ => cases h
def fJoin (x : Str) (d : D) : Option D := (d.items?).bind fun ds => (strsD ds).bind fun zs => if (zs.map (·.length)).sum + zs.length * x.length ≤ 16777216 then some (.str (Txt.join x zs)) else none
def mJoin (a : ME) (b : ML) : ME := fun env => (a env).bind fun p => (b p.2).bind fun q => match p.1 with
  | .str x => (q.1.get q.2).bind fun d => (fJoin x d).map fun z => (z, q.2)
  | _ => none
def rJoinE (K : PySem.W.Frag) : V → List V → Hp → VK → Prop := fun x xs H Q => ∃ a p, ∃ ys : List Str, x = .str a ∧ xs = [.ref p] ∧ (SqL K H p (ys.map V.str) ∨ SqT K H p (ys.map V.str)) ∧ (ys.map (·.length)).sum + ys.length * a.length ≤ 16777216 ∧ Q (.str (Txt.join a ys)) H
theorem ev_join {o e : Expr} {apos pos : Pos} {mo : ME} {me : ML} (ho : EV Z o mo) (he : LV Z e me) (hs : ∀ env, starEach [e] env = [(false, eval e env)] := by intro _; rfl) (hbase : ∀ env, attributeBase o "join" env (eval o env) = eval o env := by intro _; rfl) (hline : (apos.endLine == pos.line) = true := by rfl) :
    EV Z (.Call (.Attribute o "join" apos) [e] [] pos) (mJoin mo me) := by
  obtain ⟨t, h1, h2⟩ := ho
  obtain ⟨u, j1, j2⟩ := he
  refine ⟨tM1 (rJoinE Z.K) t u, fun X i => by have q := pe_join (h1 X i) (j1 X i) (hs _) (hbase _) hline; rw [i.K] at q; exact q, fun g env σ I H Q d env' R hm k => ?_⟩
  unfold mJoin at hm
  obtain ⟨⟨d1, e1⟩, q1, hm⟩ := Option.bind_eq_some_iff.mp hm
  obtain ⟨⟨l, e2⟩, q2, hm⟩ := Option.bind_eq_some_iff.mp hm
  cases d1 with
  | str x =>
    obtain ⟨dd, q3, hm⟩ := Option.bind_eq_some_iff.mp hm
    obtain ⟨z, q4, q5⟩ := Option.map_eq_some_iff.mp hm
    cases q5
    unfold fJoin at q4
    obtain ⟨ds, q6, q4⟩ := Option.bind_eq_some_iff.mp q4
    obtain ⟨zs, q7, q4⟩ := Option.bind_eq_some_iff.mp q4
    split at q4
    · rename_i hl
      cases q4
      refine h2 g env σ I H _ _ _ R q1 fun v I1 H1 R1 s1 rv => ?_
      cases rv.str_inv
      refine ⟨⟨x, rfl⟩, j2 g e1 σ I1 H1 _ _ _ R1 q2 fun w I2 H2 R2 s2 ow => ?_⟩
      have rb : Rbs Z I2 H2 [dd] [w] := lsGet_rbs (ls := [l]) R2 (.cons ow .nil) (by simp only [lsGet]; dsimp only at q3; rw [q3]; rfl)
      obtain ⟨w', hw, r⟩ := rb.one
      cases hw
      obtain ⟨a, us, rfl, h3, h4⟩ := r.items R2.sub q6
      have h5 := strs_rep q7 h4
      subst h5
      exact ⟨x, a, zs, rfl, rfl, h3, hl, k _ I2 H2 R2 (s1.trans s2) .str⟩
    · cases q4
  | _ => cases hm
/-! ## xs.reverse() of an own list -/
theorem reps_rev {K : PySem.W.Frag} {cl : String → Option Addr} {I : Hp} : ∀ {ds : List D} {vs : List V}, Reps K cl I ds vs → Reps K cl I ds.reverse vs.reverse
  | [], _, .nil => .nil
  | d :: ds, _, .cons r rs => by rw [List.reverse_cons, List.reverse_cons]; exact (reps_rev rs).append (.cons r .nil)
def mRev (i : Nat) : MS := fun env => (ownL env i).map fun xs => .nx (putS env i (.lst xs.reverse))
theorem sv_reverse {i : Nat} {x : Str} {p p1 cpos pos : Pos} (hN : Z.N[i]? = some x) (hv : Vis Z.sc x) (hd : (x == ("__debug__" : Str)) = false := by decide) (hcd : (x == ("__classdict__" : Str)) = false := by decide)
    (hbase : ∀ env, attributeBase (.Name x p) "reverse" env (eval (.Name x p) env) = eval (.Name x p) env := by intro _; rfl) (hline : (p1.endLine == cpos.line) = true := by rfl)
    (hsw : ∀ env, swapsWith (.Call (.Attribute (.Name x p) "reverse" p1) [] [] cpos) none pos.line env = pure false := by intro _; rfl) :
    SV Z (.Expr (.Call (.Attribute (.Name x p) "reverse" p1) [] [] cpos) pos) (mRev i) := by
  refine ⟨tDrop (tBM0 Z.K "list" rReverse (tVar i)), fun X k => ?_, fun g env σ I H D fl R hm k => ?_⟩
  · have q := pe_bm0 (X := X) (name := "reverse") (apos := p1) (cpos := cpos) PySem.F.plainAttrs_list PySem.F.slot_list_reverse PySem.F.type_list_reverse mt_reverse (pe_var (by rw [k.N]; exact hN) (visOf k hv) hd hcd) (hbase _) hline
    rw [k.K] at q
    exact ps_expr q (hsw _)
  · unfold mRev at hm
    obtain ⟨xs, e0, e1⟩ := Option.map_eq_some_iff.mp hm
    cases e1
    obtain ⟨s, a, vs, h1, h2, h3, h4, h5⟩ := own_list R e0
    refine ⟨.ref a, h3, .inl ⟨rfl, _, SqL.of h4⟩, a, vs, rfl, rfl, h4, ?_⟩
    have R2 := R.mutate h1 h2 h3 (.lst (reps_rev h5))
    have e5 : putS env i (.lst xs.reverse) = env.set i (s.put (.lst xs.reverse)) := by unfold putS; rw [h1]
    rw [e5] at k
    exact k σ I _ R2 (Same.refl I)
end
end Q
namespace Q
open PySem L2
section
variable {Z : Zc}
/-! ## a ^ b; repr(x) of plain data -/
def dXor : D → D → Option D
  | .int a, .int b => some (.int (Builtin.bitXor a b))
  | _, _ => none
theorem ok_xor : RuleOk Z (rI0 fun i j => .int (Builtin.bitXor i j)) dXor := by
  intro I H x y z vx vy Q s rx ry h k
  unfold dXor at h
  split at h
  · cases h; cases rx.int; cases ry.int; exact ⟨_, _, rfl, rfl, k _ .int⟩
  · cases h
def PyOk (p : PyData) : Bool := p.showable && !p.hasDict && decide (p.depth ≤ 60) && decide (p.shown.length ≤ sizeLine)
theorem PyOk.all {p : PyData} (h : PyOk p = true) : p.showable = true ∧ p.hasDict = false ∧ p.depth ≤ 60 ∧ p.shown.length ≤ sizeLine := by
  unfold PyOk at h
  simp only [Bool.and_eq_true, Bool.not_eq_true', decide_eq_true_eq] at h
  exact ⟨h.1.1.1, h.1.1.2, h.1.2, h.2⟩
def dRepr : List D → Option D
  | [x] => (toP x).bind fun p => if PyOk p = true then some (.str p.shown) else none
  | _ => none
def rRepr (K : PySem.W.Frag) : List V → Hp → VK → Prop := fun xs H Q => ∃ x p, xs = [x] ∧ Dp K H x p ∧ PyOk p = true ∧ Q (.str p.shown) H
theorem cr_repr {X : Cx} (h : InF Z X) : CallR X (.builtin "repr") (rRepr Z.K) := by
  rw [← h.K]
  intro pins s σ H xs us Q I r hh
  obtain ⟨x, p, rfl, hp, ok, q⟩ := hh
  obtain ⟨h1, h2, h3, h4⟩ := PyOk.all ok
  cases r with
  | cons rv rt =>
    rename_i u ut
    cases rt
    have un := h.room.units
    cases hp with
    | non => cases rv; exact PySem.P.repr_of_none ⟨.str _, H, I.tok _, ⟨_, rfl⟩, by simpa only [PyData.shown] using q⟩
    | bl b => cases rv; exact PySem.P.repr_of_bool ⟨.str _, H, I.tok _, ⟨_, rfl⟩, by simpa only [PyData.shown] using q⟩
    | int i => obtain ⟨t, rfl⟩ := rv; exact PySem.P.repr_of_int (by simpa [PyData.showable] using h1) ⟨.str _, H, I.tok _, ⟨_, rfl⟩, by simpa only [PyData.shown] using q⟩
    | str z => obtain ⟨t, rfl⟩ := rv; exact PySem.P.repr_of_str ⟨.str _, H, I.tok _, ⟨_, rfl⟩, by simpa only [PyData.shown] using q⟩ (by simpa only [PyData.shown] using h4)
    | lst hs ha =>
      obtain ⟨as, rd⟩ := Dp.reads I _ _ _ (.lst hs ha) rv
      cases rv
      exact repr_of_reads' rd h1 (PyData.noDict_hsm h2) h.gd (by omega) (fun _ _ e => e) (fun h' u tk k => ⟨.str _, H, I.kept k, ⟨_, rfl⟩, q⟩) h4
    | tup hs ha =>
      obtain ⟨as, rd⟩ := Dp.reads I _ _ _ (.tup hs ha) rv
      cases rv
      exact repr_of_reads' rd h1 (PyData.noDict_hsm h2) h.gd (by omega) (fun _ _ e => e) (fun h' u tk k => ⟨.str _, H, I.kept k, ⟨_, rfl⟩, q⟩) h4
theorem ok_repr : RuleC Z (rRepr Z.K) dRepr := by
  intro I H xs z vs Q s rs h k
  unfold dRepr at h
  split at h
  · rename_i x
    obtain ⟨p, e1, h⟩ := Option.bind_eq_some_iff.mp h
    split at h
    · rename_i ok
      cases h
      obtain ⟨v, rfl, r⟩ := rs.one
      exact ⟨v, p, rfl, r.dp s e1, ok, k _ .str⟩
    · cases h
  · cases h
end
end Q
namespace Q
open PySem L2
/-! ## Dicts whose keys are tuples of whole numbers and truth values -/
def nk (k : List Int) : NestedKey := .tup (k.map .num)
theorem nk_inj {k k' : List Int} (h : nk k = nk k') : k = k' := by
  unfold nk at h
  injection h with h
  exact (List.map_inj_right (fun a b e => by injection e)).mp h
theorem hashes_num (w : World) : ∀ k : List Int, NestedKey.hashes w (k.map .num) = k.map hashInt
  | [] => by simp [NestedKey.hashes]
  | i :: k => by simp [NestedKey.hashes, NestedKey.hash, hashes_num w k]
theorem nk_hash (w : World) (k : List Int) : (nk k).hash w = hashN k := by
  unfold nk hashN
  rw [NestedKey.hash, hashes_num]
theorem depth_num : ∀ k : List Int, NestedKey.depthAll (k.map .num) = 0
  | [] => by simp [NestedKey.depthAll]
  | i :: k => by simp [NestedKey.depthAll, NestedKey.depth, depth_num k]
theorem nk_depth (k : List Int) : (nk k).depth ≤ 8 := by
  unfold nk
  rw [NestedKey.depth, depth_num]; omega
def tri : List (List Int) → List Addr → List Value → List (NestedKey × Addr × Value)
  | k :: ks, b :: bs, u :: us => (nk k, b, u) :: tri ks bs us
  | _, _, _ => []
theorem ents_tri (P : Program) (w : World) : ∀ (ks : List (List Int)) (bs : List Addr) (us : List Value), entsN ks bs us = (tri ks bs us).map (entryOfKey (nestedKind P w))
  | [], _, _ => by simp [entsN, tri]
  | k :: ks, [], _ => by simp [entsN, tri]
  | k :: ks, b :: bs, [] => by simp [entsN, tri]
  | k :: ks, b :: bs, u :: us => by
    simp only [entsN, tri, List.map_cons, ents_tri P w ks bs us]
    congr 1
    show _ = DictEntry.mk ((nk k).hash w) _ _
    rw [nk_hash]; rfl
theorem tri_keys : ∀ (ks : List (List Int)) (bs : List Addr) (us : List Value), ks.length = bs.length → ks.length = us.length → (tri ks bs us).map (·.1) = ks.map nk
  | [], [], [], _, _ => rfl
  | k :: ks, [], _, h, _ => by cases h
  | k :: ks, b :: bs, [], _, h => by cases h
  | k :: ks, b :: bs, u :: us, h, h' => by simp only [tri, List.map_cons, tri_keys ks bs us (by simpa using h) (by simpa using h')]
  | [], b :: bs, _, h, _ => by cases h
  | [], [], u :: us, _, h => by cases h
theorem tri_length : ∀ (ks : List (List Int)) (bs : List Addr) (us : List Value), ks.length = bs.length → ks.length = us.length → (tri ks bs us).length = ks.length := fun ks bs us h h' => by
  have := congrArg List.length (tri_keys ks bs us h h')
  simpa using this
theorem ents_length : ∀ (ks : List (List Int)) (bs : List Addr) (us : List Value), ks.length = bs.length → ks.length = us.length → (entsN ks bs us).length = ks.length
  | [], _, _, _, _ => by simp [entsN]
  | k :: ks, b :: bs, u :: us, h, h' => by simp only [entsN, List.length_cons, ents_length ks bs us (by simpa using h) (by simpa using h')]
  | k :: ks, [], _, h, _ => by cases h
  | k :: ks, b :: bs, [], _, h => by cases h
theorem at_tri (k : List Int) : ∀ (ks : List (List Int)) (bs : List Addr) (us : List Value), ks.length = bs.length → ks.length = us.length → (atKey (tri ks bs us) (nk k)).isSome = decide (k ∈ ks)
  | [], [], [], _, _ => by simp [tri, atKey]
  | q :: ks, b :: bs, u :: us, h, h' => by
    have ih := at_tri k ks bs us (by simpa using h) (by simpa using h')
    unfold atKey at ih ⊢
    simp only [tri, List.find?_cons]
    by_cases e : q = k
    · subst e; simp
    · have : decide (nk q = nk k) = false := decide_eq_false fun z => e (nk_inj z)
      rw [this, ih]
      simp [Ne.symm e]
  | q :: ks, [], _, h, _ => by cases h
  | q :: ks, b :: bs, [], _, h => by cases h
  | [], b :: bs, _, h, _ => by cases h
  | [], [], u :: us, _, h => by cases h
/-- where a raw dict is told, there it stands -/
theorem raw_here {P : Program} {w : World} {H : Hp} {h : Heap} {a b : Addr} {es : List DictEntry} (ok : HOk P w H h) (e : H b = some (.ext (Raw a es))) : a = b ∧ Raw b es h := by
  obtain ⟨p, _, st⟩ := ok b _ e
  have : a = b := by
    apply Classical.byContradiction
    intro ne
    have q := st h (h.hide a) p fun o ho => by rw [Heap.hide_ne h (Ne.symm ne)]; exact ho
    obtain ⟨⟨o, ep, ho, _⟩, _, _⟩ := q
    rw [Heap.hide_self] at ho; cases ho
  subst this
  exact ⟨rfl, p⟩
theorem raw_ok {P : Program} {w : World} {H : Hp} {h : Heap} {a : Addr} {es : List DictEntry} (r : Raw a es h) : ObjOk P w H h a (.ext (Raw a es)) :=
  ⟨r, let ⟨o, _, e, _⟩ := r.ob; ⟨o, e⟩, fun h1 h2 p k => ⟨let ⟨o, ep, e, q⟩ := p.ob; ⟨o, ep, k o e, q⟩, p.sm, p.sz⟩⟩
section
variable {X : Cx} {pins : List (Addr × Obj)} {σ : L2.St} {H : Hp} {s : Shared}
theorem nums_all {h : Heap} : ∀ {vs : List V} {its : List Value} {k : List Int}, Vals vs its → vs.map numV = k.map some → NestedAll h (k.map .num) its
  | [], _, k, r, e => by
    cases r
    cases k with
    | nil => exact .nil
    | cons a k => cases e
  | v :: vs, _, [], r, e => by cases e
  | v :: vs, _, i :: k, .cons r1 r2, e => by
    simp only [List.map_cons, List.cons.injEq] at e
    refine .cons ?_ (nums_all r2 e.2)
    cases v with
    | int j => cases e.1; obtain ⟨t, rfl⟩ := r1; exact .int _ _
    | bl b => cases e.1; cases r1; exact .bool rfl
    | _ => cases e.1
theorem key_is (I : Inv X pins σ H s) {k : List Int} {b : Addr} (h : KeyAt X.K H k b) : (nestedKind X.prog X.w).is s.heap (nk k) b := by
  obtain ⟨vs, h1, h2⟩ := h
  obtain ⟨its, rv, ⟨o, ho, hc, n, hd⟩, _⟩ := I.tuple h1
  exact ⟨.tup ho hc hd (by simpa using nums_all rv h2), nk_depth k⟩
theorem keys_are (I : Inv X pins σ H s) : ∀ {ks : List (List Int)} {bs : List Addr} (us : List Value), KeysAt X.K H ks bs → ∀ x ∈ tri ks bs us, (nestedKind X.prog X.w).is s.heap x.1 x.2.1
  | _, _, _, .nil => fun x hx => by simp [tri] at hx
  | _, _, [], .cons _ _ => fun x hx => by simp [tri] at hx
  | _, _, u :: us, .cons h t => fun x hx => by
    simp only [tri, List.mem_cons] at hx
    rcases hx with rfl | hx
    · exact key_is I h
    · exact keys_are I us t x hx
theorem dict_here (I : Inv X pins σ H s) {a b : Addr} {ks : List (List Int)} {bs : List Addr} {us : List Value} (h : H b = some (.ext (Raw a (entsN ks bs us)))) (hk : KeysAt X.K H ks bs) (hl : ks.length = us.length) (hn : ks.Nodup) :
    a = b ∧ (b == sysModules) = false ∧ (tri ks bs us).length ≤ sizeLine ∧ s.heap.DictOfH (nestedKind X.prog X.w) b (tri ks bs us) := by
  obtain ⟨rfl, r⟩ := raw_here I.hok h
  obtain ⟨⟨o, ep, h1, h2, h3⟩, h4, h5⟩ := r
  refine ⟨rfl, h4, by rw [tri_length _ _ _ hk.length hl]; rw [ents_length _ _ _ hk.length hl] at h5; exact h5, o, _, ep, h1, h2, h3, by rw [ents_tri X.prog X.w], keys_are I us hk, ?_⟩
  rw [tri_keys _ _ _ hk.length hl]
  exact List.pairwise_map.mpr (List.Pairwise.imp (fun ne e => ne (nk_inj e)) hn)
end
/-! ### k in d, k not in d -/
def rNIn (neg : Bool) (K : PySem.W.Frag) : R2 := fun x y H Q => ∃ k b a c ks bs us, x = .ref b ∧ y = .ref c ∧ KeyAt K H k b ∧ H c = some (.ext (Raw a (entsN ks bs us))) ∧ KeysAt K H ks bs ∧ ks.length = us.length ∧ ks.Nodup ∧
  Q (.bl (if neg then !decide (k ∈ ks) else decide (k ∈ ks))) H
section
variable {Z : Zc}
theorem or_nIn {X : Cx} (h : InF Z X) : OpR X (compareOp .In) (rNIn false Z.K) := by
  rw [← h.K]
  intro pins s σ H x y v u Q I rx ry hh
  obtain ⟨k, b, a, c, ks, bs, us, rfl, rfl, h1, h2, h3, h4, h5, q⟩ := hh
  cases rx; cases ry
  obtain ⟨rfl, e1, e2, e3⟩ := dict_here I h2 h3 h4 h5
  have un := h.room.units
  refine wpAny_in_heap (by show X.A.units + 1 + 8 < cLine; omega) (key_is I h1) e1 e3 ⟨.bl _, H, I.tok _, rfl, ?_⟩
  rw [at_tri _ _ _ _ h3.length h4]
  exact q
theorem or_nNin {X : Cx} (h : InF Z X) : OpR X (compareOp .NotIn) (rNIn true Z.K) := by
  rw [← h.K]
  intro pins s σ H x y v u Q I rx ry hh
  obtain ⟨k, b, a, c, ks, bs, us, rfl, rfl, h1, h2, h3, h4, h5, q⟩ := hh
  cases rx; cases ry
  obtain ⟨rfl, e1, e2, e3⟩ := dict_here I h2 h3 h4 h5
  have un := h.room.units
  refine notIn_keyed (kvs := pairsH (tri ks bs us)) (by show X.A.units + 1 + 8 < cLine; omega) (key_is I h1) e1 ⟨_, e3, rfl⟩ ⟨.bl _, H, I.tok _, rfl, ?_⟩
  rw [valueAt_pairsH, Option.isSome_map, at_tri _ _ _ _ h3.length h4]
  exact q
def numD : D → Option Int
  | .int i => some i
  | .bl b => some (if b = true then 1 else 0)
  | _ => none
def numsD : D → Option (List Int)
  | .tup ds => ds.mapM numD
  | _ => none
theorem nums_rep {K : PySem.W.Frag} {cl : String → Option Addr} {I : Hp} : ∀ {ds : List D} {vs : List V} {k : List Int}, Reps K cl I ds vs → ds.mapM numD = some k → vs.map numV = k.map some
  | [], _, k, r, e => by cases r; simp at e; subst e; rfl
  | d :: ds, _, k, .cons r1 r2, e => by
    simp only [List.mapM_cons, Option.bind_eq_bind, Option.pure_def] at e
    obtain ⟨i, e1, e⟩ := Option.bind_eq_some_iff.mp e
    obtain ⟨k2, e2, e⟩ := Option.bind_eq_some_iff.mp e
    cases e
    rw [List.map_cons, List.map_cons, nums_rep r2 e2]
    congr 1
    cases d with
    | int j => cases e1; rw [r1.int_inv]; rfl
    | bl b => cases e1; rw [r1.bl_inv]; rfl
    | _ => cases e1
theorem Rb.key {I H : Hp} {d : D} {k : List Int} {v : V} (s : Same I H) (e : numsD d = some k) (r : Rb Z I H d v) : ∃ b, v = .ref b ∧ KeyAt Z.K H k b := by
  cases d with
  | tup ds =>
    obtain ⟨b, vs, rfl, h1, h2⟩ := r.tup s
    exact ⟨b, rfl, vs, h1, nums_rep h2 e⟩
  | _ => cases e
theorem Rb.dcn {I H : Hp} {ks xs} {v : V} (s : Same I H) (r : Rb Z I H (.dcn ks xs) v) : ∃ c a vs bs us, v = .ref c ∧ H c = some (.ext (Raw a (entsN ks bs us))) ∧ KeysAt Z.K H ks bs ∧ Reps Z.K Z.cl I xs vs ∧ Vals vs us ∧ ks.length = xs.length ∧ ks.Nodup := by
  rcases r with r | ⟨c, rfl, o, e, r⟩
  · obtain ⟨c, a, vs, bs, us, rfl, h1, h2, h3⟩ := r.dcn_inv
    exact ⟨c, a, vs, bs, us, rfl, s _ _ h1, h2.mono s, h3⟩
  · obtain ⟨a, vs, bs, us, rfl, h2, h3⟩ := r.dcn_inv
    exact ⟨c, a, vs, bs, us, rfl, e, h2.mono s, h3⟩
def dInN (neg : Bool) (x y : D) : Option D := match y with
  | .dcn ks _ => (numsD x).map fun k => .bl (if neg then !decide (k ∈ ks) else decide (k ∈ ks))
  | _ => none
theorem ok_inN {neg : Bool} : RuleOk Z (rNIn neg Z.K) (dInN neg) := by
  intro I H x y z vx vy Q s rx ry h k
  unfold dInN at h
  split at h
  · rename_i ks xs
    obtain ⟨q, e, h⟩ := Option.map_eq_some_iff.mp h
    cases h
    obtain ⟨b, rfl, h1⟩ := rx.key s e
    obtain ⟨c, a, vs, bs, us, rfl, h2, h3, h4, h5, h6, h7⟩ := ry.dcn s
    exact ⟨q, b, a, c, ks, bs, us, rfl, rfl, h1, h2, h3, by rw [h6, h4.length, h5.length], h7, k _ .bl⟩
  · cases h
end
/-! ### d[k] = v -/
def replN {α : Type} (k : List Int) (x : α) : List (List Int) → List α → List α
  | q :: ks, y :: ys => (if q = k then x else y) :: replN k x ks ys
  | _, ys => ys
def putN (k : List Int) (ks : List (List Int)) : List (List Int) := if k ∈ ks then ks else ks ++ [k]
def putX {α : Type} (k : List Int) (x : α) (ks : List (List Int)) (xs : List α) : List α := if k ∈ ks then replN k x ks xs else xs ++ [x]
theorem replN_length {α : Type} (k : List Int) (x : α) : ∀ (ks : List (List Int)) (xs : List α), (replN k x ks xs).length = xs.length
  | [], xs => by simp [replN]
  | q :: ks, [] => by simp [replN]
  | q :: ks, y :: ys => by simp [replN, replN_length k x ks ys]
theorem put_length {α : Type} (k : List Int) (x : α) (ks : List (List Int)) (xs : List α) (h : ks.length = xs.length) : (putN k ks).length = (putX k x ks xs).length := by
  unfold putN putX
  split
  · rw [replN_length, h]
  · simp [h]
theorem replN_rep {K : PySem.W.Frag} {cl : String → Option Addr} {I : Hp} {k : List Int} {d : D} {v : V} (r : Rep K cl I d v) : ∀ {ks : List (List Int)} {xs : List D} {vs : List V}, Reps K cl I xs vs → Reps K cl I (replN k d ks xs) (replN k v ks vs)
  | [], _, _, rs => by simp only [replN]; exact rs
  | q :: ks, _, _, .nil => by simp only [replN]; exact .nil
  | q :: ks, _, _, .cons r1 r2 => by
    simp only [replN]
    refine .cons ?_ (replN_rep r r2)
    split
    · exact r
    · exact r1
theorem putX_rep {K : PySem.W.Frag} {cl : String → Option Addr} {I : Hp} {k : List Int} {d : D} {v : V} {ks : List (List Int)} {xs : List D} {vs : List V} (r : Rep K cl I d v) (rs : Reps K cl I xs vs) : Reps K cl I (putX k d ks xs) (putX k v ks vs) := by
  unfold putX
  split
  · exact replN_rep r rs
  · exact rs.append (.cons r .nil)
theorem replN_vals {k : List Int} {v : V} {u : Value} (r : RelV v u) : ∀ {ks : List (List Int)} {vs : List V} {us : List Value}, Vals vs us → Vals (replN k v ks vs) (replN k u ks us)
  | [], _, _, rs => by simp only [replN]; exact rs
  | q :: ks, _, _, .nil => by simp only [replN]; exact .nil
  | q :: ks, _, _, .cons r1 r2 => by
    simp only [replN]
    refine .cons ?_ (replN_vals r r2)
    split
    · exact r
    · exact r1
theorem putX_vals {k : List Int} {v : V} {u : Value} {ks : List (List Int)} {vs : List V} {us : List Value} (r : RelV v u) (rs : Vals vs us) : Vals (putX k v ks vs) (putX k u ks us) := by
  unfold putX
  split
  · exact replN_vals r rs
  · exact rs.append (.cons r .nil)
theorem tri_append {ks : List (List Int)} {bs : List Addr} {us : List Value} (h : ks.length = bs.length) (h' : ks.length = us.length) (k : List Int) (b : Addr) (u : Value) : tri (ks ++ [k]) (bs ++ [b]) (us ++ [u]) = tri ks bs us ++ [(nk k, b, u)] := by
  induction ks generalizing bs us with
  | nil => cases bs with
    | nil => cases us with
      | nil => rfl
      | cons => cases h'
    | cons => cases h
  | cons q ks ih => cases bs with
    | nil => cases h
    | cons c bs => cases us with
      | nil => cases h'
      | cons v us => simp only [List.cons_append, tri, ih (by simpa using h) (by simpa using h')]
theorem tri_repl (k : List Int) (u : Value) : ∀ (ks : List (List Int)) (bs : List Addr) (us : List Value), (tri ks bs us).map (putAt (nk k) u) = tri ks bs (replN k u ks us)
  | [], _, _ => by simp [tri]
  | q :: ks, [], us => by cases us <;> simp [tri]
  | q :: ks, b :: bs, [] => by simp [tri, replN]
  | q :: ks, b :: bs, v :: us => by
    simp only [tri, replN, List.map_cons, tri_repl k u ks bs us]
    congr 1
    unfold putAt
    by_cases e : q = k
    · subst e; simp
    · rw [if_neg (fun z => e (nk_inj z)), if_neg e]
/-- what stands behind: the keys' addresses too -/
def putB (k : List Int) (b : Addr) (ks : List (List Int)) (bs : List Addr) : List Addr := if k ∈ ks then bs else bs ++ [b]
theorem stored_tri {ks : List (List Int)} {bs : List Addr} {us : List Value} (h : ks.length = bs.length) (h' : ks.length = us.length) (k : List Int) (b : Addr) (u : Value) : storedH (tri ks bs us) (nk k) b u = tri (putN k ks) (putB k b ks bs) (putX k u ks us) := by
  unfold storedH putN putB putX
  rw [at_tri k ks bs us h h']
  by_cases e : k ∈ ks
  · simp only [e, decide_true, if_true]; exact tri_repl ..
  · simp only [e, decide_false, if_false, Bool.false_eq_true]; exact (tri_append h h' k b u).symm
theorem KeysAt.put {K : PySem.W.Frag} {I : Hp} {k : List Int} {b : Addr} {ks : List (List Int)} {bs : List Addr} (h : KeysAt K I ks bs) (hk : KeyAt K I k b) : KeysAt K I (putN k ks) (putB k b ks bs) := by
  unfold putN putB
  split
  · exact h
  · have : ∀ {ks bs}, KeysAt K I ks bs → KeysAt K I (ks ++ [k]) (bs ++ [b]) := by
      intro ks bs h
      induction h with
      | nil => exact .cons hk .nil
      | cons h t ih => exact .cons h ih
    exact this h
theorem putN_nodup {k : List Int} {ks : List (List Int)} (h : ks.Nodup) : (putN k ks).Nodup := by
  unfold putN
  split
  · exact h
  · rename_i e
    rw [List.nodup_append]
    exact ⟨h, by simp, fun a ha b hb z => by simp at hb; subst hb; subst z; exact e ha⟩
section
variable {X : Cx} {pins : List (Addr × Obj)} {σ : L2.St} {H : Hp} {s : Shared}
/-- behind a store -/
theorem dict_stored {h' : Heap} {t' : Nat} {c b : Addr} {ks : List (List Int)} {bs : List Addr} {us : List Value} {k : List Int} {u : Value} (I : Inv X pins σ H s) {a : Addr} (h : H c = some (.ext (Raw a (entsN ks bs us)))) (hk : KeysAt X.K H ks bs) (hb : KeyAt X.K H k b)
    (hl : ks.length = us.length) (hz : ks.length < sizeLine) (hd : (c == sysModules) = false) (hm : h'.DictOfH (nestedKind X.prog X.w) c (storedH (tri ks bs us) (nk k) b u)) (hs : Heap.SameBut c s.heap h') :
    Inv X pins σ (upd H c (.ext (Raw c (entsN (putN k ks) (putB k b ks bs) (putX k u ks us))))) { s with heap := h', toks := t' } := by
  obtain ⟨o, es, ep, h1, h2, h3, h4, h5, h6⟩ := hm
  rw [stored_tri hk.length hl] at h4
  refine d_write I (by rw [h]; exact True.intro) hs ⟨o, h1⟩ (raw_ok ⟨⟨o, ep, h1, h2, ?_⟩, hd, ?_⟩)
  · rw [h3, ents_tri X.prog X.w, ← h4]
  · have e1 : (putN k ks).length = (putB k b ks bs).length := (hk.put hb).length
    have e2 : (putN k ks).length = (putX k u ks us).length := put_length k u ks us hl
    rw [ents_length _ _ _ e1 e2]
    unfold putN
    split <;> simp <;> omega
end
def sNPut (td ty tv : TE) (K : PySem.W.Frag) : TS := fun D σ H => tv σ H fun v H1 => td σ H1 fun x H2 => ty σ H2 fun y H3 => ∃ k b a c ks bs us, y = .ref b ∧ x = .ref c ∧ KeyAt K H3 k b ∧ H3 c = some (.ext (Raw a (entsN ks bs us))) ∧ KeysAt K H3 ks bs ∧
  ks.length = us.length ∧ ks.Nodup ∧ ks.length < sizeLine ∧ ∀ u, RelV v u → D.nx σ (upd H3 c (.ext (Raw c (entsN (putN k ks) (putB k b ks bs) (putX k u ks us)))))
theorem ps_nput {X : Cx} {o i value : Expr} {td ty tv : TE} {pos pos' : Pos} (hu : X.A.units + 20 < cLine) (ho : PE X o td) (hi : PE X i ty) (hv : PE X value tv) (hs : swapsWith value (some (.Subscript o i pos')) pos.line X.env = pure false) :
    PS X (.Assign [.Subscript o i pos'] value pos) (sNPut td ty tv X.K) := by
  refine ⟨fun pins s σ H D I h => ?_⟩
  refine wpAny_Assign_Subscript (thn (hv.run pins s σ H _ I h) fun r s1 ⟨v, H1, I1, rv, q1⟩ => thn (ho.run pins s1 σ H1 _ I1 q1) fun u s2 ⟨x, H2, I2, rx, q2⟩ => thn (hi.run pins s2 σ H2 _ I2 q2) fun iv s3 hh => ?_) hs
  obtain ⟨y, H3, I3, ry, k, b, a, c, ks, bs, us, rfl, rfl, h1, h2, h3, h4, h5, h6, q3⟩ := hh
  cases rx; cases ry
  obtain ⟨rfl, e1, e2, e3⟩ := dict_here I3 h2 h3 h4 h5
  exact wpAny_setItem_heap (by show X.A.units + 1 + 8 < cLine; omega) (key_is I3 h1) e3 (fun h' hm hs' => ⟨σ, _, dict_stored I3 h2 h3 h1 h4 h6 e1 hm hs', q3 r rv⟩) e2
section
variable {Z : Zc}
def ownN (env : En) (i : Nat) : Option (List (List Int) × List D) := (env[i]?).bind fun s => (s.own?).bind fun d => match d with
  | .dcn ks xs => some (ks, xs)
  | _ => none
theorem ownN_inv {env : En} {i : Nat} {ks : List (List Int)} {xs : List D} (h : ownN env i = some (ks, xs)) : ∃ s, env[i]? = some s ∧ s.own? = some (.dcn ks xs) := by
  unfold ownN at h
  obtain ⟨s, e, h⟩ := Option.bind_eq_some_iff.mp h
  obtain ⟨d, e2, h⟩ := Option.bind_eq_some_iff.mp h
  cases d <;> first | (cases h; exact ⟨s, e, e2⟩) | cases h
def mSetN (i : Nat) (e j : ME) : MS := fun env => (e env).bind fun p => (ownN p.2 i).bind fun _ => (j p.2).bind fun q => (ownN q.2 i).bind fun kx => (numsD q.1).bind fun k =>
  if kx.2.length < sizeLine then some (.nx (putS q.2 i (.dcn (putN k kx.1) (putX k p.1 kx.1 kx.2)))) else none
theorem sv_setN {i : Nat} {x : Str} {e j : Expr} {me mj : ME} {p p1 pos : Pos} (hN : Z.N[i]? = some x) (hv : Vis Z.sc x) (he : EV Z e me) (hj : EV Z j mj) (hd : (x == ("__debug__" : Str)) = false := by decide) (hcd : (x == ("__classdict__" : Str)) = false := by decide)
    (hs : ∀ env, swapsWith e (some (.Subscript (.Name x p) j p1)) pos.line env = pure false := by intro _; rfl) :
    SV Z (.Assign [.Subscript (.Name x p) j p1] e pos) (mSetN i me mj) := by
  obtain ⟨t, q1, q2⟩ := he
  obtain ⟨u, j1, j2⟩ := hj
  refine ⟨sNPut (tVar i) u t Z.K, fun X k => by have q := ps_nput (X := X) (by have := k.room.units; omega) (pe_var (pos := p) (by rw [k.N]; exact hN) (visOf k hv) hd hcd) (j1 X k) (q1 X k) (hs _); rw [k.K] at q; exact q, fun g env σ I H D fl R hm k => ?_⟩
  unfold mSetN at hm
  obtain ⟨⟨y, en⟩, e1, hm⟩ := Option.bind_eq_some_iff.mp hm
  obtain ⟨⟨ks0, xs0⟩, e2, hm⟩ := Option.bind_eq_some_iff.mp hm
  obtain ⟨⟨n, en2⟩, e3, hm⟩ := Option.bind_eq_some_iff.mp hm
  obtain ⟨⟨ks, xs⟩, e4, hm⟩ := Option.bind_eq_some_iff.mp hm
  obtain ⟨q, e5, hm⟩ := Option.bind_eq_some_iff.mp hm
  split at hm
  · rename_i hl
    cases hm
    refine q2 g env σ I H _ y en R e1 fun v I1 H1 R1 s1 rv => ?_
    obtain ⟨s0, f1, f2⟩ := ownN_inv e2
    obtain ⟨a0, o0, f3, _⟩ := own_at R1 f1 f2
    refine ⟨.ref a0, f3, ?_⟩
    refine j2 g en σ I1 H1 _ _ en2 R1 e3 fun w I2 H2 R2 s2 rw' => ?_
    obtain ⟨s, h5, h6⟩ := ownN_inv e4
    obtain ⟨c, o, h7, h8, h9, h10⟩ := own_at R2 h5 h6
    rw [f3] at h7
    cases h7
    obtain ⟨a, vs, bs, us, rfl, r1, r2, r3, r4, r5⟩ := h9.dcn_inv
    obtain ⟨b, rfl, hk⟩ := (show Rb Z I2 H2 n w from .inl rw').key R2.sub e5
    have hk0 : KeyAt Z.K I2 q b := by
      cases n with
      | tup ds =>
        obtain ⟨b', vs', e, h1, h2⟩ := rw'.tup_inv
        cases e
        exact ⟨vs', h1, nums_rep h2 e5⟩
      | _ => cases e5
    refine ⟨q, b, a, a0, ks, bs, us, rfl, rfl, hk, h8, r1.mono R2.sub, by rw [r4, r2.length, r3.length], r5, by rw [r4]; exact hl, fun u' ru => ?_⟩
    have R3 := R2.mutate h5 h6 f3 (.dcn (a := a0) (r1.put hk0) (putX_rep (k := q) (ks := ks) (rv.mono s2) r2) (putX_vals (k := q) (ks := ks) ru r3) (put_length q y ks xs r4) (putN_nodup r5) : ObjRep Z.K Z.cl I2 (.dcn (putN q ks) (putX q y ks xs)) _)
    have e6 : putS en2 i (.dcn (putN q ks) (putX q y ks xs)) = en2.set i (s.put (.dcn (putN q ks) (putX q y ks xs))) := by unfold putS; rw [h5]
    rw [e6] at k
    exact k σ I2 _ R3 (s1.trans s2)
  · cases hm
end
end Q
namespace Q
open PySem PySem.Spec PyProof.Rows L2
/-! ## {k: v for ..} whatever the keys are: e0 the new dict, SS one store -/
abbrev StoreW := V → V → Addr → Hp → (Hp → Prop) → Prop
def tDg (wi : TI) (g : TG) (tt : TT) (tk tv : TE) (vs : List Nat) (e0 : Addr → HO) (SS : StoreW) : TE := fun σ H Q => wi σ H fun J H1 => ∀ L, H1 L = none → ∃ W : Nat → Nat → Hp → Prop, (∃ m, W 0 m (upd H1 L (e0 L))) ∧ ∀ i m G, W i m G →
  (J.stop i G ∧ Q (.ref L) G) ∨ (J.go i G ∧ ∃ Nx : Hp → Prop, (∀ G', Nx G' → ∃ m', m' < m ∧ W (i + 1) m' G') ∧ ∀ x G', J.yld i G x G' → g x (wipe σ vs) G' fun τ G2 => wipe τ vs = wipe σ vs ∧ tt τ G2 fun b G3 =>
    if b = true then tk τ G3 fun y G4 => tv τ G4 fun z G5 => SS y z L G5 Nx else Nx G3)
section
variable {X : Cx}
/-- what a store does where the dict stands -/
def StoreOk (X : Cx) (SS : StoreW) : Prop := ∀ (Y : Cx) (pins : List (Addr × Obj)) (σ : L2.St) (G : Hp) (t : Shared) (L : Addr) (y z : V) (u r : Value) (Nx : Hp → Prop) (Q : Unit → Shared → Prop) (E : Value → Shared → Prop),
  Y.prog = X.prog → Y.w = X.w → Y.K = X.K → Y.A = X.A → Inv Y pins σ G t → SS y z L G Nx → RelV y u → RelV z r → (∀ t' G', Inv Y pins σ G' t' → Nx G' → Q () t') → wpAny (model Y.prog Y.w) Y.A (dictSet L u r) Q E t
theorem dg_core {pins : List (Addr × Obj)} {t : Shared} {σ : L2.St} {G : Hp} {Q : VK} {kx vx tg iter : Expr} {ifs : List Expr} {scope : Scope} {own : List (Str × Nat)} {pos pos' : Pos} {wi : TI} {g : TG} {tt : TT} {tk tv : TE} {e0 : Addr → HO} {SS : StoreW} {use : Option (Value → Sem Unit)} {Qf : Value → Shared → Prop}
    (hc : X.calm = true) (hN : X.N.Nodup) (J0 : Inv X pins σ G t) (hi : PI X tg iter wi) (ok : BlkOk X.N X.env.scope scope own) (emp : ∀ (H : Hp) (h : Heap), sysModules < h.objs.size → ObjOk X.prog X.w H (h.push { cls := .type "dict", data := .dict #[] }) h.objs.size (e0 h.objs.size)) (hS : StoreOk X SS)
    (hg : ∀ t H C cl fp, PG (X.blk t H scope (compEnvC scope cl C X.env) fp) tg g) (ht : ∀ t H C cl fp, PTs (X.blk t H scope (compEnvC scope cl C X.env) fp) ifs tt) (hk : ∀ t H C cl fp, PE (X.blk t H scope (compEnvC scope cl C X.env) fp) kx tk) (he : ∀ t H C cl fp, PE (X.blk t H scope (compEnvC scope cl C X.env) fp) vx tv)
    (hs : ∀ x, foldedSetIterable iter X.env x = pure x) (h : tDg wi g tt tk tv (own.map (·.2)) e0 SS σ G Q)
    (back : ∀ L C t' m G', Inv X pins σ G' t' → Q (.ref L) G' → t'.heap.Ns C m → FpOk X pins G' C → compPost (model X.prog X.w) X.A X.xe use Qf (.ref L) C (.ok .next) t') :
    wpAny (model X.prog X.w) X.A (comprehension (.DictComp kx vx [⟨tg, iter, ifs, 0⟩] scope pos) scope X.env pos' newDict false (eval iter X.env) use) Qf X.xe t := by
  have fr : ∀ y ∈ scope.names, y.2 = .free → ∃ c, X.env.cells.lookup y.1 = some c := fun y hy e => (ok.free y hy e).elim (fun k => J0.ok.has _ (.inl k)) fun k => J0.ok.has _ (.inr k)
  refine wpAny_comprehension_free (use := use) rfl hs (closure_ok fr) ok.kind (fun y hy e => by rw [ok.uniq y hy, e]) (thn (hi.run pins t σ G _ J0 h) fun _ _ hx => thn hx fun _ t2 ⟨it, fp, tn, J, G2, e, I2, T, st2, f2, q⟩ => ?_)
  subst e
  refine wpAny_newObj_type (newEnv_comp ?_)
  generalize hD : t2.heap.objs.size = L
  obtain ⟨W, ⟨m0, w0⟩, turn⟩ := q L (I2.hok.fresh (Nat.le_of_eq hD))
  obtain ⟨t3, hs3⟩ : ∃ t3 : Shared, t3 = { t2 with heap := t2.heap.push { cls := .type "dict", data := .dict #[] } } := ⟨_, rfl⟩
  rw [← hs3]
  have h3 : t3.heap = t2.heap.push { cls := .type "dict", data := .dict #[] } := by rw [hs3]
  have I3 : Inv X pins σ (upd G2 L (e0 L)) t3 := by
    subst hs3; subst hD
    exact I2.laid (t' := t2.toks) (fun _ _ q => Heap.get?_push_of_some _ q) (Nat.le_refl _) (emp _ _ I2.big)
  have lt2 : ∀ b ∈ fp, b < t2.heap.objs.size := fun b hb => let ⟨_, e, _⟩ := T.obj _ _ st2 b hb; Heap.lt_size e
  have f3 : ∀ b ∈ fp, FpOk X pins (upd G2 L (e0 L)) b ∧ b < t3.heap.objs.size := fun b hb => by
    have q := lt2 b hb
    have ne : b ≠ L := by subst hD; exact Nat.ne_of_lt q
    exact ⟨⟨by rw [upd_ne ne]; exact (f2 b hb).1, (f2 b hb).2⟩, by rw [h3, Heap.size_push]; exact Nat.lt_succ_of_lt q⟩
  have st3 : tn 0 t3.heap := T.keep _ _ _ st2 fun _ _ _ q => by rw [h3]; exact Heap.get?_push_of_some _ q
  have I4 := block_start I3 ok hN f3
  have nfp : ∀ b ∈ fp, (upd G2 L (e0 L)) b = none := fun b hb => (f3 b hb).1.1
  show codeAny _ _ (.compStart (.DictComp kx vx [⟨tg, iter, ifs, 0⟩] scope pos) 0 (.ref it) (.ref L) (compEnvC scope (cellsFrom (t3.heap.objs.size + 1) scope.names (cloFrom X.env.cells scope.names [])) t3.heap.objs.size X.env)) (compPost (model X.prog X.w) X.A X.xe use Qf (.ref L) t3.heap.objs.size) { t3 with heap := pushCells (t3.heap.push { cls := .type "dict", data := .dict #[] }) scope.names }
  obtain ⟨ce, hce⟩ : ∃ ce, ce = compEnvC scope (cellsFrom (t3.heap.objs.size + 1) scope.names (cloFrom X.env.cells scope.names [])) t3.heap.objs.size X.env := ⟨_, rfl⟩
  obtain ⟨G3, hG3⟩ : ∃ G3, G3 = upd G2 L (e0 L) := ⟨_, rfl⟩
  have pg : PG (X.blk t3 G3 scope ce fp) tg g := by rw [hce]; exact hg ..
  have pt : PTs (X.blk t3 G3 scope ce fp) ifs tt := by rw [hce]; exact ht ..
  have pk : PE (X.blk t3 G3 scope ce fp) kx tk := by rw [hce]; exact hk ..
  have pe : PE (X.blk t3 G3 scope ce fp) vx tv := by rw [hce]; exact he ..
  have cL : ce.locals = t3.heap.objs.size := by rw [hce]; rfl
  rw [← hce] at I4 ⊢
  rw [← hG3] at I3 I4 w0 nfp f3
  obtain ⟨t4, hs4⟩ : ∃ t4 : Shared, t4 = { t3 with heap := pushCells (t3.heap.push { cls := .type "dict", data := .dict #[] }) scope.names } := ⟨_, rfl⟩
  rw [← hs4] at I4 ⊢
  have st4 : tn 0 t4.heap := T.keep _ _ _ st3 fun _ _ _ q => by rw [hs4]; exact pushCells_keeps _ _ _ _ (Heap.get?_push_of_some _ q)
  have stat : ∀ {τ : L2.St} {G' : Hp} {t' : Shared}, Inv (X.blk t3 G3 scope ce fp) [] τ G' t' → (∀ b ∈ fp, G' b = none) → ∀ b ∈ fp, FpOk (X.blk t3 G3 scope ce fp) [] G' b := fun {τ G' t'} K hn b hb =>
    ⟨hn b hb, (K.ok.exf b hb).1, K.ok.exfs b hb, .inl hb, fun x c e => (K.ok.exf b hb).2 x c e, fun p hp => absurd hp List.not_mem_nil⟩
  have loop : codeAny (model X.prog X.w) X.A (.compLoop (.DictComp kx vx [⟨tg, iter, ifs, 0⟩] scope pos) 0 (.ref it) (.ref L) ce) (compPost (model X.prog X.w) X.A X.xe use Qf (.ref L) t3.heap.objs.size) t4 := by
    refine compLoop_anyD (fun n t' => ∃ i G', Inv (X.blk t3 G3 scope ce fp) [] (wipe σ (own.map (·.2))) G' t' ∧ tn i t'.heap ∧ (∀ b ∈ fp, G' b = none) ∧ W i n G') ?_ m0 ⟨0, G3, I4, st4, nfp, w0⟩
    rintro n t5 ⟨i, G5, I5, st5, n5, w5⟩
    rcases turn i n G5 w5 with ⟨stop, qq⟩ | ⟨go, Nx, hNx, step⟩
    · refine thnF (T.done (X.blk t3 G3 scope ce fp) rfl rfl rfl hc i [] t5 _ G5 (fun _ _ => False) I5 (stat I5 n5) st5 stop) fun r t6 ⟨hr, I6⟩ => ?_
      subst hr
      have I7 : Inv X pins σ G5 t6 := I3.call' (ch := fp) I6.os I6.base I6.hok I6.bare fun b hb => let z := (f3 b hb).1.2; ⟨z.2.2.1, z.1, z.2.2.2.1, z.2.2.2.2⟩
      obtain ⟨m, hn, _⟩ := I6.loc
      have nC : G5 ce.locals = none := I6.free
      have hn' : t6.heap.Ns ce.locals m := hn
      rw [cL] at nC hn'
      exact back L t3.heap.objs.size t6 m G5 I7 qq hn' (I3.fpOk (Nat.le_refl _) nC)
    · refine thnF (T.item (X.blk t3 G3 scope ce fp) rfl rfl rfl hc i [] t5 _ G5 (fun _ _ => False) I5 (stat I5 n5) st5 go) fun r t6 ⟨u, hr, h6⟩ => ?_
      subst hr
      refine thnF h6 fun _ t7 ⟨x, G7, I7, r7, y7, st7, n7⟩ => ?_
      refine thnF (pg.run _ t7 _ G7 x u _ (I7.pinned (stat I7 n7) (T.obj _ _ st7)) r7 (step x G7 y7)) fun _ t8 ⟨τ, G8, I8, hw8, q8⟩ => thnF (pt.run _ t8 τ G8 _ I8 q8) fun b t9 ⟨G9, I9, q9⟩ => ?_
      -- behind the turn
      have fin : ∀ {t' : Shared} {G' : Hp}, Inv (X.blk t3 G3 scope ce fp) ([] ++ pinsAt fp t7.heap) τ G' t' → Nx G' → ∃ m, m < n ∧ ∃ i G', Inv (X.blk t3 G3 scope ce fp) [] (wipe σ (own.map (·.2))) G' t' ∧ tn i t'.heap ∧ (∀ b ∈ fp, G' b = none) ∧ W i m G' := fun {t' G'} K nx => by
        obtain ⟨m', hm, w'⟩ := hNx G' nx
        have pin : ∀ b ∈ fp, ∀ o, t7.heap.get? b = some o → t'.heap.get? b = some o ∧ G' b = none := fun b hb o e => let z := K.pin (b, o) (List.mem_append_right _ (List.mem_append_right _ (mem_pinsAt hb e))); ⟨z.1, z.2.1⟩
        refine ⟨m', hm, i + 1, G', (K.unpinned (pins := [])).weak (by rw [← hw8, wipe_length]) (fun j v e => ?_), T.keep _ _ _ st7 fun b hb o e => (pin b hb o e).1, fun b hb => let ⟨o, e, _⟩ := T.obj _ _ st7 b hb; (pin b hb o e).2, w'⟩
        rw [← hw8] at e
        exact (wipe_some e).1
      cases b with
      | false => rw [if_neg Bool.false_ne_true] at q9 ⊢; exact fin I9 q9
      | true =>
        rw [if_pos rfl] at q9 ⊢
        exact thnF (pk.run _ t9 τ G9 _ I9 q9) fun z t10 ⟨yk, G10, I10, r10, q10⟩ => thnF (pe.run _ t10 τ G10 _ I10 q10) fun z2 t11 ⟨yv, G11, I11, r11, q11⟩ =>
          hS (X.blk t3 G3 scope ce fp) _ τ G11 t11 L yk yv z z2 Nx _ _ rfl rfl rfl rfl I11 q11 r10 r11 fun t12 G12 I12 nx => fin I12 nx
  exact codeAny_compStart_dict loop (T.self X.A 0 _ _ _ st4 loop)
end
/-! ### the keys tuples -/
namespace Nd
open PySem L2
def rawE (L : Addr) : HO := .ext (Raw L [])
def ssN (K : PySem.W.Frag) : StoreW := fun y z L H Nx => ∃ k b a ks bs us, y = .ref b ∧ KeyAt K H k b ∧ H L = some (.ext (Raw a (entsN ks bs us))) ∧ KeysAt K H ks bs ∧ ks.length = us.length ∧ ks.Nodup ∧ ks.length < sizeLine ∧
  ∀ u, RelV z u → Nx (upd H L (.ext (Raw L (entsN (putN k ks) (putB k b ks bs) (putX k u ks us)))))
theorem emptyN {P : Program} {w : World} (H : Hp) (h : Heap) (hb : sysModules < h.objs.size) : ObjOk P w H (h.push { cls := .type "dict", data := .dict #[] }) h.objs.size (rawE h.objs.size) :=
  raw_ok ⟨⟨_, 0, Heap.get?_push_size _ rfl, ⟨rfl, rfl, rfl⟩, rfl⟩, beq_eq_false_iff_ne.mpr (Ne.symm (Nat.ne_of_lt hb)), Nat.zero_le _⟩
theorem storeN {X : Cx} (hu : X.A.units + 20 < cLine) : StoreOk X (ssN X.K) := by
  intro Y pins σ G t L y z u r Nx Q E e1 e2 e3 e4 I hs ry rz hq
  obtain ⟨k, b, a, ks, bs, us, rfl, h1, h2, h3, h4, h5, h6, nx⟩ := hs
  cases ry
  rw [← e3] at h1 h3
  obtain ⟨rfl, d1, d2, d3⟩ := dict_here I h2 h3 h4 h5
  exact wpAny_dictSet_heap (by show Y.A.units + 8 < cLine; rw [e4]; omega) (key_is I h1) d3 (fun h' hm hs' => hq _ _ (dict_stored I h2 h3 h1 h4 h6 d1 hm hs') (nx r rz)) d2
theorem it_g {J : It} {n : Nat} {Ok : Hp → Prop} {Y : Nat → Hp → V → Hp → Prop} (w : Walk J n Ok Y) {g : TG} {tt : TT} {tk tv : TE} {vs : List Nat} {σ : L2.St} {H1 : Hp} {L : Addr} {Qd : Hp → Prop} {e0 : Addr → HO} {SS : StoreW} (Pv : Nat → Hp → Prop) (h0 : Pv 0 (upd H1 L (e0 L))) (hG : ∀ i H, i ≤ n → Pv i H → Ok H)
    (hs : ∀ i x H H', i < n → Pv i H → Y i H x H' → g x (wipe σ vs) H' fun τ H2 => wipe τ vs = wipe σ vs ∧ tt τ H2 fun b H3 => if b = true then tk τ H3 fun y H4 => tv τ H4 fun z H5 => SS y z L H5 (Pv (i + 1)) else Pv (i + 1) H3) (hd : ∀ H, Pv n H → Qd H) :
    ∃ W : Nat → Nat → Hp → Prop, (∃ m, W 0 m (upd H1 L (e0 L))) ∧ ∀ i m H, W i m H → (J.stop i H ∧ Qd H) ∨ (J.go i H ∧ ∃ Nx : Hp → Prop, (∀ H', Nx H' → ∃ m', m' < m ∧ W (i + 1) m' H') ∧
      ∀ x H', J.yld i H x H' → g x (wipe σ vs) H' fun τ H2 => wipe τ vs = wipe σ vs ∧ tt τ H2 fun b H3 => if b = true then tk τ H3 fun y H4 => tv τ H4 fun z H5 => SS y z L H5 Nx else Nx H3) := by
  refine ⟨fun i m H => m = n - i ∧ i ≤ n ∧ Pv i H, ⟨n, by simp, Nat.zero_le _, h0⟩, ?_⟩
  rintro i m H ⟨rfl, hi, p⟩
  by_cases hlt : i < n
  · exact .inr ⟨w.goes i H hlt (hG i H hi p), Pv (i + 1), fun H' p' => ⟨n - (i + 1), by omega, rfl, hlt, p'⟩, fun x H' y => hs i x H H' hlt p (w.yields i H x H' hlt (hG i H hi p) y)⟩
  · obtain rfl : i = n := by omega
    exact .inl ⟨w.stops H (hG i H hi p), hd H p⟩
end Nd
section
open Nd PySem L2
variable {Z : Zc}
def dnLoop (gf : D → En → Option En) (mt : MT) (mk mv : ME) (vs : List Nat) : List D → List (List Int) → List D → En → Option (List (List Int) × List D × En)
  | [], ks, xs, env => some (ks, xs, env)
  | d :: ds, ks, xs, env => (gf d (wipeE env vs)).bind fun e1 => (mt e1).bind fun p =>
    if p.1 then (mk p.2).bind fun q => (numsD q.1).bind fun k => (mv q.2).bind fun r => if xs.length < sizeLine then dnLoop gf mt mk mv vs ds (putN k ks) (putX k r.1 ks xs) r.2 else none
    else dnLoop gf mt mk mv vs ds ks xs p.2
def mDn (vs : List Nat) (mi : MI) (gf : D → En → Option En) (mt : MT) (mk mv : ME) : ME := fun env => (mi env).bind fun p => if calmAt p.2 vs = true then (dnLoop gf mt mk mv vs p.1 [] [] p.2).map fun q => (.dcn q.1 q.2.1, backE p.2 (wipeE q.2.2 vs) vs) else none
theorem key_fix {I : Hp} {d : D} {k : List Int} {v : V} (e : numsD d = some k) (r : Rep Z.K Z.cl I d v) : ∃ b, v = .ref b ∧ KeyAt Z.K I k b := by
  cases d with
  | tup ds => obtain ⟨b, vs, rfl, h1, h2⟩ := r.tup_inv; exact ⟨b, rfl, vs, h1, nums_rep h2 e⟩
  | _ => cases e
theorem KeyAt.mono {K : PySem.W.Frag} {I I' : Hp} {k : List Int} {b : Addr} (s : Same I I') (h : KeyAt K I k b) : KeyAt K I' k b := let ⟨vs, h1, h2⟩ := h; ⟨vs, sqT_mono s h1, h2⟩
theorem dn_sf {wi : TI} {gt : TG} {tt : TT} {tk tv : TE} {vs : List Nat} {mi : MI} {gf : D → En → Option En} {mt : MT} {mk mv : ME} {ix : List Nat} (hnd : vs.Nodup) (hix : ∀ i ∈ ix, i ∈ vs) (i2 : SI Z wi mi)
    (g2 : ∀ (g : G) (env : En) (σ : L2.St) (I H : Hp) (d : D) (v : V) (Q : L2.St → Hp → Prop) (env' : En), SR Z.K Z.cl g env σ I H → Rep Z.K Z.cl I d v → gf d env = some env' →
      (∀ σ', SR Z.K Z.cl g env' σ' I H → (∀ vs, (∀ i ∈ ix, i ∈ vs) → wipe σ' vs = wipe σ vs) → Q σ' H) → gt v σ H Q)
    (t2 : ST Z tt mt) (k2 : SE Z tk mk) (v2 : SE Z tv mv) : SF Z (tDg wi gt tt tk tv vs rawE (ssN Z.K)) (mDn vs mi gf mt mk mv) := by
  intro g env σ I H Q d env' R hm k
  unfold mDn at hm
  obtain ⟨⟨ds, en⟩, e1, hm⟩ := Option.bind_eq_some_iff.mp hm
  split at hm
  · rename_i hcalm
    obtain ⟨⟨kf, fin, enf⟩, e3, hm⟩ := Option.map_eq_some_iff.mp hm
    cases hm
    refine i2 g env σ I H _ ds en R e1 fun J I1 H1 R1 s1 wd L hL => ?_
    obtain ⟨Gd, Y, hw, hgd, hy⟩ := wd
    have hX : ∀ u, (L, u) ∉ g.X := (R1.new (o := rawE L) hL).x
    refine it_g (e0 := rawE) (SS := ssN Z.K) (H1 := H1) (L := L) hw (fun i H' => ∃ env' I' ks acc av bs us, SR Z.K Z.cl (g.beside L (.ext (Raw L (entsN ks bs us)))) (wipeE env' vs) (wipe σ vs) I' H' ∧ Same I1 I' ∧ Reps Z.K Z.cl I' acc av ∧ Vals av us ∧ KeysAt Z.K I' ks bs ∧ ks.length = acc.length ∧ ks.Nodup ∧ dnLoop gf mt mk mv vs (ds.drop i) ks acc env' = some (kf, fin, enf))
      ⟨en, I1, [], [], [], [], [], ((R1.alloc hL _).put (R1.new hL)).wipe vs, Same.refl _, .nil, .nil, .nil, rfl, List.nodup_nil, e3⟩ (fun i H' _ ⟨env', I', ks, acc, av, bs, us, R', s', _⟩ => hgd I' H' s' R'.sub) ?_ ?_
    · rintro i x H2 H3 hlt ⟨env2, I2, ks, acc, av, bs, us, R2, s2, ra, rvs, rks, hlen0, hnk, hm2⟩ hyld
      have hd : ds[i]? = some ds[i] := List.getElem?_eq_getElem hlt
      have hdrop : ds.drop i = ds[i] :: ds.drop (i + 1) := List.drop_eq_getElem_cons hlt
      rw [hdrop] at hm2
      obtain ⟨I3, R3, s3, r3⟩ := hy i ds[i] _ _ _ I2 H2 x H3 hd s2 R2 hyld
      unfold dnLoop at hm2
      obtain ⟨en3, q1, hm2⟩ := Option.bind_eq_some_iff.mp hm2
      refine g2 _ _ _ I3 H3 ds[i] x _ en3 R3 r3 q1 fun σ4 R4 w4 => ?_
      have hwp : wipe σ4 vs = wipe σ vs := by
        rw [w4 vs hix]
        have ww : ∀ (ws us : List Nat) (τ : L2.St), (∀ u ∈ us, u ∈ ws) → wipe (wipe τ us) ws = wipe τ ws := by
          intro ws us
          induction us with
          | nil => intro τ _; rfl
          | cons u us ih =>
            intro τ hu
            show wipe ((wipe τ us).set u none) ws = wipe τ ws
            rw [wipe_set (hu u List.mem_cons_self), ih τ fun v hv => hu v (List.mem_cons_of_mem _ hv)]
        exact ww vs vs σ fun _ h => h
      refine ⟨hwp, ?_⟩
      obtain ⟨⟨b, en4⟩, q2, hm2⟩ := Option.bind_eq_some_iff.mp hm2
      refine t2 _ _ _ I3 H3 _ b en4 R4 q2 fun I5 H5 R5 s5 => ?_
      cases b with
      | false =>
        simp only [Bool.false_eq_true, if_false] at hm2 ⊢
        have R6 := R5.wipe vs
        rw [hwp] at R6
        exact ⟨en4, I5, ks, acc, av, bs, us, R6, (s2.trans s3).trans s5, ra.mono (s3.trans s5), rvs, rks.mono (s3.trans s5), hlen0, hnk, hm2⟩
      | true =>
        simp only [if_true] at hm2 ⊢
        obtain ⟨⟨y, en5⟩, q3, hm2⟩ := Option.bind_eq_some_iff.mp hm2
        obtain ⟨ky, q4, hm2⟩ := Option.bind_eq_some_iff.mp hm2
        obtain ⟨⟨z, en6⟩, q5, hm2⟩ := Option.bind_eq_some_iff.mp hm2
        split at hm2
        · rename_i hlen
          refine k2 _ _ _ I5 H5 _ y en5 R5 q3 fun v I6 H6 R6 s6 rv => ?_
          refine v2 _ _ _ I6 H6 _ z en6 R6 q5 fun u I7 H7 R7 s7 ru => ?_
          have sx : Same I2 I7 := ((s3.trans s5).trans s6).trans s7
          obtain ⟨bk, rfl, hk⟩ := key_fix q4 rv
          have hk7 := hk.mono s7
          have hkl : ks.length = us.length := by rw [hlen0, ra.length, rvs.length]
          refine ⟨ky, bk, L, ks, bs, us, rfl, hk7.mono R7.sub, (R7.ex L _ List.mem_cons_self).1, (rks.mono sx).mono R7.sub, hkl, hnk, by rw [hlen0]; exact hlen, fun uu ruu => ?_⟩
          refine ⟨en6, I7, putN ky ks, putX ky z ks acc, putX ky u ks av, putB ky bk ks bs, putX ky uu ks us, ?_, s2.trans sx, putX_rep ru (ra.mono sx), putX_vals ruu rvs, (rks.mono sx).put hk7, put_length ky z ks acc hlen0, putN_nodup hnk, hm2⟩
          have R8 := (R7.exSet (o' := .ext (Raw L (entsN (putN ky ks) (putB ky bk ks bs) (putX ky uu ks us)))) hX).wipe vs
          rw [hwp] at R8
          exact R8
        · cases hm2
    · rintro H2 ⟨env2, I2, ks, acc, av, bs, us, R2, s2, ra, rvs, rks, hlen0, hnk, hm2⟩
      rw [List.drop_length] at hm2
      cases hm2
      have R3 := SR.back R1 vs hnd hcalm R2 s2
      obtain ⟨R4, n4⟩ := R3.take hX
      exact k L _ I2 H2 R4 (s1.trans s2) n4 (.dcn rks ra rvs hlen0 hnk)
  · cases hm
theorem pe_dn {X : Cx} {kx vx tg iter : Expr} {ifs : List Expr} {scope : Scope} {own : List (Str × Nat)} {pos : Pos} {wi : TI} {g : TG} {tt : TT} {tk tv : TE} (hu : X.A.units + 20 < cLine) (hc : X.calm = true) (hN : X.N.Nodup) (hi : PI X tg iter wi) (ok : BlkOk X.N X.env.scope scope own)
    (hg : ∀ t H C cl fp, PG (X.blk t H scope (compEnvC scope cl C X.env) fp) tg g) (ht : ∀ t H C cl fp, PTs (X.blk t H scope (compEnvC scope cl C X.env) fp) ifs tt) (hk : ∀ t H C cl fp, PE (X.blk t H scope (compEnvC scope cl C X.env) fp) kx tk) (he : ∀ t H C cl fp, PE (X.blk t H scope (compEnvC scope cl C X.env) fp) vx tv)
    (hs : ∀ x, foldedSetIterable iter X.env x = pure x) : PE X (.DictComp kx vx [⟨tg, iter, ifs, 0⟩] scope pos) (tDg wi g tt tk tv (own.map (·.2)) rawE (ssN X.K)) := by
  refine ⟨fun pins s σ H Q I h => ?_⟩
  rw [arm_eval_DictComp]
  refine dg_core hc hN I hi ok (fun H h hb => emptyN H h hb) (storeN hu) hg ht hk he hs h fun L C t' m H' I' q hn f => ⟨m, hn, fun h'' sb => ?_⟩
  obtain ⟨f0, f1, f2, f3, f4, f5⟩ := f
  exact ⟨.ref L, H', I'.turned (t' := t'.toks) (fun b o hb e => (sb.2 b hb).trans e) f0 f1 f3 f4 f5, rfl, q⟩
theorem ef_dn {kx vx tg iter : Expr} {ifs : List Expr} {scope : Scope} {own : List (Str × Nat)} {pos : Pos} {mi : MI} {ix : List Nat} {gf : D → En → Option En} {mt : MT} {mk mv : ME} (hi : IV Z tg iter mi) (ok : BlkOk Z.N Z.sc scope own) (hg : GV (ZB Z scope) tg ix gf) (ht : CV (ZB Z scope) ifs mt)
    (hk : EV (ZB Z scope) kx mk) (hv : EV (ZB Z scope) vx mv) (hnd : (own.map (·.2)).Nodup := by decide) (hix : ∀ i ∈ ix, i ∈ own.map (·.2) := by decide) (hs : ∀ env x, foldedSetIterable iter env x = pure x := by intro _ _; rfl) : EF Z (.DictComp kx vx [⟨tg, iter, ifs, 0⟩] scope pos) (mDn (own.map (·.2)) mi gf mt mk mv) := by
  obtain ⟨wi, i1, i2⟩ := hi
  obtain ⟨gt, g1, g2⟩ := hg
  obtain ⟨tt, t1, t2⟩ := ht
  obtain ⟨tk, k1, k2⟩ := hk
  obtain ⟨tv, v1, v2⟩ := hv
  exact ⟨tDg wi gt tt tk tv (own.map (·.2)) rawE (ssN Z.K), fun X k => by have q := pe_dn (X := X) (pos := pos) (by have := k.room.units; omega) k.calm k.nd (i1 X k) (by rw [k.N, k.sc]; exact ok) (fun s H C cl fp => g1 _ (inB k s H C cl fp)) (fun s H C cl fp => t1 _ (inB k s H C cl fp)) (fun s H C cl fp => k1 _ (inB k s H C cl fp)) (fun s H C cl fp => v1 _ (inB k s H C cl fp)) (hs _); rw [k.K] at q; exact q, dn_sf hnd hix i2 g2 t2 k2 v2⟩
section
open PySem.Spec PyProof.Rows
theorem ps_putDn {X : Cx} {slot : Nat} {nm : Str} {pn : Pos} {kx vx tg iter : Expr} {ifs : List Expr} {scope : Scope} {own : List (Str × Nat)} {cp sp : Pos} {wi : TI} {gg : TG} {tt : TT} {tk tv : TE} (hu : X.A.units + 20 < cLine) (hcalm : X.calm = true) (hnod : X.N.Nodup)
    (hslot : X.N[slot]? = some nm) (hloc : X.env.scope.names.lookup nm = some .local) (hswap : swapsWith (.DictComp kx vx [⟨tg, iter, ifs, 0⟩] scope cp) (some (.Name nm pn)) sp.line X.env = pure true)
    (hit : PI X tg iter wi) (hblk : BlkOk X.N X.env.scope scope own)
    (h1 : ∀ s H C cl fp, PG (X.blk s H scope (compEnvC scope cl C X.env) fp) tg gg) (h2 : ∀ s H C cl fp, PTs (X.blk s H scope (compEnvC scope cl C X.env) fp) ifs tt)
    (h3 : ∀ s H C cl fp, PE (X.blk s H scope (compEnvC scope cl C X.env) fp) kx tk) (h4 : ∀ s H C cl fp, PE (X.blk s H scope (compEnvC scope cl C X.env) fp) vx tv)
    (hfold : ∀ v, foldedSetIterable iter X.env v = pure v) :
    PS X (.Assign [.Name nm pn] (.DictComp kx vx [⟨tg, iter, ifs, 0⟩] scope cp) sp) (tAsg (tDg wi gg tt tk tv (own.map (·.2)) rawE (ssN X.K)) (gName slot)) := by
  constructor
  intro pins s σ H D J hq
  rw [exec_Assign_Name_used _ _ _ _ hswap]
  refine wpAny_bind (wpAny_standAt (wpAny_bind ?_))
  show wpAny _ X.A (do let _ ← comprehension (.DictComp kx vx [⟨tg, iter, ifs, 0⟩] scope cp) scope X.env (firstIterPos [⟨tg, iter, ifs, 0⟩] cp) newDict false (eval iter X.env) (some (assign (.Name nm pn) X.env))) _ _ s
  have hq' : tDg wi gg tt tk tv (own.map (·.2)) rawE (ssN X.K) σ H (fun x H1 => gName slot x σ H1 D.nx) := hq
  have core := dg_core (Qf := fun _ s' => SP X pins D .next s') hcalm hnod J hit hblk (fun H h hb => emptyN H h hb) (storeN hu) h1 h2 h3 h4 hfold hq' (use := some (assign (.Name nm pn) X.env)) (pos := cp) (pos' := firstIterPos [⟨tg, iter, ifs, 0⟩] cp) (fun L C s' m H' J' qq hn fr => by
    show wpAny _ _ (assign (.Name nm pn) X.env (.ref L)) _ _ _
    refine wpAny_assign_Name (store_ok2 (v := V.ref L) J' hnod hslot (.inl hloc) rfl (fun s2 J2 hs2 => ?_) (.inr hloc))
    obtain ⟨a, sb, ha⟩ := hs2
    obtain ⟨r0, r1, r2, r3, r4, r5⟩ := fr
    have hne : C ≠ a := ha.elim (fun z => z ▸ r1) (fun z e => r4 nm a z e.symm)
    exact ⟨m, hn.sameBut sb hne, fun h9 sb9 => ⟨_, H', J2.turned (t' := s2.toks) (fun b o hb e => (sb9.2 b hb).trans e) r0 r1 r3 r4 r5, qq⟩⟩)
  exact wpAny_bind (thn core fun _ s' hq2 => wpAny_pure (wpAny_pure hq2))
end
theorem sv_asgDn {i : Nat} {y : Str} {py : Pos} {kx vx tg iter : Expr} {ifs : List Expr} {scope : Scope} {own : List (Str × Nat)} {pos spos : Pos} {mi : MI} {ix : List Nat} {gf : D → En → Option En} {mt : MT} {mk mv : ME} (hN : Z.N[i]? = some y) (hy : Z.sc.names.lookup y = some .local)
    (hk : Z.sc.kind = .function) (hl : (py.line == pos.line) = true := by rfl) (ha : (scope.names.any fun q => q.1 == y && (q.2 == .local || q.2 == .cell)) = false := by decide +kernel)
    (hi : IV Z tg iter mi) (ok : BlkOk Z.N Z.sc scope own) (hg : GV (ZB Z scope) tg ix gf) (ht : CV (ZB Z scope) ifs mt)
    (hkx : EV (ZB Z scope) kx mk) (hvx : EV (ZB Z scope) vx mv) (hnd : (own.map (·.2)).Nodup := by decide) (hix : ∀ i ∈ ix, i ∈ own.map (·.2) := by decide) (hs : ∀ env x, foldedSetIterable iter env x = pure x := by intro _ _; rfl) :
    SV Z (.Assign [.Name y py] (.DictComp kx vx [⟨tg, iter, ifs, 0⟩] scope pos) spos) (mAsgF i (mDn (own.map (·.2)) mi gf mt mk mv)) := by
  obtain ⟨wi, i1, i2⟩ := hi
  obtain ⟨gt, g1, g2⟩ := hg
  obtain ⟨tt, t1, t2⟩ := ht
  obtain ⟨tk, k1, k2⟩ := hkx
  obtain ⟨tv, v1, v2⟩ := hvx
  refine ⟨tAsg (tDg wi gt tt tk tv (own.map (·.2)) rawE (ssN Z.K)) (gName i), fun X k => ?_, fun g env σ I H D fl R hm k => ?_⟩
  · have q := ps_putDn (X := X) (pn := py) (cp := pos) (sp := spos) (by have := k.room.units; omega) k.calm k.nd (by rw [k.N]; exact hN) (by rw [k.sc]; exact hy) (swap_dc (by rw [k.sc]; exact hk) (by rw [k.sc]; exact hy) hl ha) (i1 X k) (by rw [k.N, k.sc]; exact ok) (fun s H C cl fp => g1 _ (inB k s H C cl fp)) (fun s H C cl fp => t1 _ (inB k s H C cl fp)) (fun s H C cl fp => k1 _ (inB k s H C cl fp)) (fun s H C cl fp => v1 _ (inB k s H C cl fp)) (hs _)
    rw [k.K] at q
    exact q
  · unfold mAsgF at hm
    obtain ⟨r, q1, hm⟩ := Option.bind_eq_some_iff.mp hm
    split at hm
    · rename_i hi
      cases hm
      exact dn_sf hnd hix i2 g2 t2 k2 v2 g env σ I H _ r.1 r.2 R q1 fun a o I1 H1 R1 s1 n ro => k _ I1 H1 (R1.setOwn (by rw [← R1.len]; exact hi) n ro) s1
    · cases hm
end
end Q
namespace L2
open PySem PySem.Spec PyProof.Rows
section
variable {P : Program} {w : World} {A : Around} {E : Value → Shared → Prop} {s : Shared}
set_option maxHeartbeats 3200000 in
/-- set(xs), xs a list of whole numbers -/
theorem set_of_list {l : Addr} {its : Array Value} (ns : List Int) {Q : Value → Shared → Prop} (hh : A.handled = none) (hl : s.heap.IsList l its) (hit : IntsAre its.toList ns) (hb : ns.length + 1 < scanBound)
    (h : ∀ (h' : Heap) (tk c : Nat), SetR w h' s.heap.objs.size (fun j => decide (j ∈ ns)) c → c ≤ ns.length → (∀ b o, s.heap.get? b = some o → h'.get? b = some o) → Q (.ref s.heap.objs.size) { s with heap := h', toks := tk }) :
    wpAny (model P w) A (call (.type "set") [.ref l]) Q E s := by
  have isz : its.size = ns.length := by have q := IntsAre.length hit; simpa using q
  obtain ⟨c, tl, hmro⟩ := F.called_set.mro
  have k1 := F.called_set.made
  have k2 := F.called_set.sub
  refine wpAny_call (codeAny_of_tree (show wpAny _ _ (callAny (.type "set") _) _ _ _ from wpAny_pure ⟨Code.quiet_builtin _ (by decide +kernel), codeAny_builtin F.entry_type_call ?_⟩))
  rw [Around.under_plain (weight_type_call_type "set" [.ref l] []) rfl]
  have k3 := F.called_set.notType
  have k4 := F.called_set.canCreate
  have k5 := F.typeCall_set_1 (.ref l)
  repeat (any_goals (first | assumption | wp_step))
  refine codeAny_mono (code_set_led1 (.ref l) (E := E) (Q₁ := fun ob t => ob = .ref s.heap.objs.size ∧ t = { s with heap := s.heap.push { cls := .type "set", dict := none, data := .set #[] 0 (.fresh 0 0 (!w.params.followText "set-order")) } }) ⟨rfl, rfl⟩) fun r t hr => ?_
  match r, hr with
  | .error e, hr => exact hr
  | .ok .next, hr => exact hr.elim
  | .ok .brk, hr => exact hr.elim
  | .ok .cont, hr => exact hr.elim
  | .ok (.ret ob), hr =>
    obtain ⟨rfl, rfl⟩ := hr
    have gS : (s.heap.push { cls := .type "set", dict := none, data := .set #[] 0 (.fresh 0 0 (!w.params.followText "set-order")) }).get? s.heap.objs.size = some { cls := .type "set", dict := none, data := .set #[] 0 (.fresh 0 0 (!w.params.followText "set-order")) } := Heap.get?_push_size _ rfl
    have tS : Shared.TypeIs { s with heap := s.heap.push { cls := .type "set", dict := none, data := .set #[] 0 (.fresh 0 0 (!w.params.followText "set-order")) } } (.ref s.heap.objs.size) "set" := ⟨_, gS, rfl⟩
    have k6 := F.called_set.init.lookup
    have k7 := F.called_set.init.bind (.ref s.heap.objs.size)
    repeat (any_goals (first | assumption | wp_step))
    refine codeAny_mono (codeAny_call_builtin (R := wants (fun r t => r = .none ∧ ∃ h' tk c, t = { s with heap := h', toks := tk } ∧ SetR w h' s.heap.objs.size (fun j => decide (j ∈ ns)) c ∧ c ≤ ns.length ∧
        (∀ b o, s.heap.get? b = some o → h'.get? b = some o)) E) F.called_set.init.plain F.entry_set_init (check_set_init_1 tS ?_)) fun r2 t2 hr2 => ?_
    · obtain ⟨⟨ocls, odict, odata, oslots⟩, hol, hcl, nl, hdl⟩ := hl
      simp only at hcl hdl
      subst hcl; subst hdl
      have hol2 : (s.heap.push { cls := .type "set", dict := none, data := .set #[] 0 (.fresh 0 0 (!w.params.followText "set-order")) }).get? l = some { cls := .type "list", dict := odict, data := .seq its nl, slots := oslots } := Heap.get?_push_of_some _ hol
      have k8 := F.sub_list_set
      have k9 := F.sub_list_frozenset
      have k10 : (Value.type "list" == Value.type "dict") = false := by decide
      have hl1 : (s.heap.push { cls := .type "set", dict := none, data := .set #[] 0 (.fresh 0 0 (!w.params.followText "set-order")) }).IsList l its := ⟨_, hol2, rfl, nl, rfl⟩
      unfold Builtin.«set.__init__» noKeywords Builtin.Frozenset.updateFrom
      generalize hPI : pyIter = PI
      wp_walk
      subst hPI
      refine wpAny_pyIter_list hl1 (wpAny_bind (wpAny_runValue ?_))
      have lS : l < s.heap.objs.size := Heap.lt_size hol
      have nI : l ≠ (s.heap.push { cls := .type "set", dict := none, data := .set #[] 0 (.fresh 0 0 (!w.params.followText "set-order")) }).objs.size := by
        rw [Heap.size_push]; exact Nat.ne_of_lt (Nat.lt_succ_of_lt lS)
      have nS : s.heap.objs.size ∉ [(s.heap.push { cls := .type "set", dict := none, data := .set #[] 0 (.fresh 0 0 (!w.params.followText "set-order")) }).objs.size, l] := fun z => by
        rw [Heap.size_push] at z
        rcases List.mem_cons.mp z with z | z
        · exact Nat.ne_of_lt (Nat.lt_succ_self _) z
        · exact Nat.ne_of_gt lS (List.mem_singleton.mp z)
      have val : ∀ (i : Nat) (v : Value), its[i]? = some v → ∃ k t, ns[i]? = some k ∧ v = .int k t := fun i v hv => by
        have hi : i < ns.length := by rw [← isz]; exact (Array.getElem?_eq_some_iff.mp hv).1
        obtain ⟨t, e⟩ := PyProof.Rows.IntsAre.int_at hit i v (by rw [Array.getElem?_toList]; exact hv)
        exact ⟨ns[i], t, List.getElem?_eq_getElem hi, by rw [e, List.getD_eq_getElem?_getD, List.getElem?_eq_getElem hi] <;> rfl⟩
      have h3 : A.in1.in1.in1.handled = none := by simp [hh]
      refine set_update_ints ((Walks.list h3 _ l nI its).toS) s.heap.objs.size nS ns isz hb val (its.size - 0) 0 _ (by omega) (Nat.zero_le _) ⟨⟨_, Heap.get?_push_size _ rfl, rfl, rfl⟩, (hl1.push _)⟩ ?start ?behind
      case start => exact ⟨0, Nat.le_refl 0, setR_new_at (Heap.get?_push_of_some _ gS)⟩
      case behind =>
        rintro ⟨h', g2, d', tk', os'⟩ c' hm hc' hS'
        obtain rfl : g2 = s.gens := hm.gens
        obtain rfl : d' = s.drawn := hm.drawn
        obtain rfl : os' = s.os := hm.os
        rw [isz] at hc'
        refine wpAny_pure (show wpAny _ _ (ret Value.none) _ _ _ from wpAny_pure ⟨rfl, h', tk', c', rfl, hS', hc', fun b o e => ?_⟩)
        have b0 : b < s.heap.objs.size := Heap.lt_size e
        refine hm.heap b o (fun z => ?_) (Heap.get?_push_of_some _ (Heap.get?_push_of_some _ e))
        rcases List.mem_cons.mp z with z | z
        · exact Nat.ne_of_lt b0 z
        · have z := List.mem_singleton.mp z
          rw [Heap.size_push] at z
          exact Nat.ne_of_lt (Nat.lt_succ_of_lt b0) z
    · match r2, hr2 with
      | .error e, hr2 => exact hr2
      | .ok .next, hr2 => exact hr2.elim
      | .ok .brk, hr2 => exact hr2.elim
      | .ok .cont, hr2 => exact hr2.elim
      | .ok (.ret r), hr2 =>
        obtain ⟨rfl, h', tk, c', rfl, hS', hc', hk'⟩ := hr2
        repeat (any_goals (first | assumption | wp_step))
        exact h _ _ _ hS' hc' hk'
end
end L2
namespace Q
open PySem PySem.Spec L2
section
variable {Z : Zc}
/-! ## sorted(set(xs)) of whole numbers -/
/-- the members, ascending, each once -/
def insI (a : Int) : List Int → List Int
  | [] => [a]
  | b :: l => if a < b then a :: b :: l else if a = b then b :: l else b :: insI a l
def ascI (ns : List Int) : List Int := ns.foldr insI []
theorem ins_mem (a k : Int) : ∀ l : List Int, k ∈ insI a l ↔ k = a ∨ k ∈ l
  | [] => by simp [insI]
  | b :: l => by
    unfold insI
    split
    · simp
    · split
      · rename_i h; subst h; simp
      · simp only [List.mem_cons, ins_mem a k l]
        constructor
        · rintro (h | h | h) <;> simp [h]
        · rintro (h | h | h) <;> simp [h]
theorem ins_pair (a : Int) : ∀ l : List Int, l.Pairwise (· < ·) → (insI a l).Pairwise (· < ·)
  | [], _ => by simp [insI]
  | b :: l, h => by
    obtain ⟨h1, h2⟩ := List.pairwise_cons.mp h
    unfold insI
    split
    · rename_i hab
      refine List.pairwise_cons.mpr ⟨fun c hc => ?_, h⟩
      rcases List.mem_cons.mp hc with rfl | hc
      · exact hab
      · have := h1 c hc; omega
    · split
      · exact h
      · refine List.pairwise_cons.mpr ⟨fun c hc => ?_, ins_pair a l h2⟩
        rcases (ins_mem a c l).mp hc with rfl | hc
        · omega
        · exact h1 c hc
theorem asc_pair : ∀ ns : List Int, (ascI ns).Pairwise (· < ·)
  | [] => List.Pairwise.nil
  | n :: ns => ins_pair n _ (asc_pair ns)
theorem asc_mem (k : Int) : ∀ ns : List Int, k ∈ ascI ns ↔ k ∈ ns
  | [] => Iff.rfl
  | n :: ns => by
    show k ∈ insI n (ascI ns) ↔ _
    rw [ins_mem, asc_mem k ns, List.mem_cons]
def dSetSort : List D → Option D
  | [.lst ds] => (intsD ds).bind fun ns => if ns.length ≤ 60 then some (.lst ((ascI ns).map .int)) else none
  | _ => none
theorem asc_eq {ns ms : List Int} (h1 : ms.Pairwise (· < ·)) (h2 : ∀ k, k ∈ ms ↔ k ∈ ns) : ms = ascI ns := by
  have h3 := asc_pair ns
  refine List.Perm.eq_of_pairwise (le := (· < ·)) (fun a b _ _ x y => by omega) h1 h3 ?_
  have n1 : ms.Nodup := h1.imp fun h => by omega
  have n2 : (ascI ns).Nodup := h3.imp fun h => by omega
  exact (List.perm_ext_iff_of_nodup n1 n2).mpr fun k => by rw [h2, asc_mem]
theorem intsOfVals : ∀ {ns : List Int} {us : List Value}, Vals (ns.map V.int) us → PyProof.Rows.IntsAre us ns
  | [], _, .nil => .nil
  | n :: ns, _, .cons r t => by
    obtain ⟨k, rfl⟩ := r
    exact .cons n k (intsOfVals t)
def tSS (K : PySem.W.Frag) (ta : TE) : TE := fun σ H Q => ta σ H fun x H1 => ∃ (l : Addr) (ns : List Int), x = .ref l ∧ SqL K H1 l (ns.map V.int) ∧ ns.length ≤ 60 ∧ ∀ p, H1 p = none → Q (.ref p) (upd H1 p (.lst ((ascI ns).map V.int)))
theorem pe_setSort {X : Cx} {a : Expr} {ta : TE} {p p2 q pos : Pos} (hg : Gl X "sorted") (hm : X.mg "sorted" = none) (hg2 : Gl X "set") (hm2 : X.mg "set" = none) (ha : PE X a ta) (hc : X.calm = true)
    (na : starEach [a] X.env = (false, eval a X.env) :: starEach [] X.env) : PE X (.Call (.Name "sorted" p) [.Call (.Name "set" p2) [a] [] q] [] pos) (tSS X.K ta) := by
  refine ⟨fun pins s σ H Q I h => ?_⟩
  refine wpAny_Call_Name_kw (ld_blt I hg hm (u := .builtin "sorted") (by decide +kernel) ?_)
  refine PyProof.Rows.callWith_builtin1 (PyProof.Rows.args_cons ?_ rfl) rfl rfl
  refine wpAny_Call_Name_kw (ld_blt I hg2 hm2 PyProof.Rows.boot_set ?_)
  refine PyProof.Rows.callWith_type1 (PyProof.Rows.args_cons (thn (ha.run pins s σ H _ I h) fun v s1 ⟨x, H1, I1, r1, l, ns, ex, hq, hl, q1⟩ => PyProof.Rows.args_nil ?_) na) na rfl
  subst ex
  cases r1
  obtain ⟨its, r, pl, hz⟩ := I1.list hq
  have hd := I1.ok.hd hc
  refine set_of_list ns hd pl.isList (by simpa using intsOfVals r) (by unfold scanBound; omega) fun h' tk c R hcn k => ?_
  refine PyProof.Rows.args_nil ?_
  have I2 : Inv X pins σ H1 { s1 with heap := h', toks := tk } := I1.kept k
  refine sorted_set (s := { s1 with heap := h', toks := tk }) R hd (by omega) fun s' p out c2 ms k2 g o hp hg2 hi hs hm hl2 => ?_
  obtain ⟨h2, gg, d2, t2, o2⟩ := s'
  obtain rfl : gg = s1.gens := g
  obtain rfl : o2 = s1.os := o
  have em : ms = ascI ns := asc_eq hs fun j => by rw [hm, decide_eq_true_eq]
  subst em
  have hn : H1 p = none := I2.hok.fresh hp
  have hlen : ((ascI ns).map V.int).length ≤ sizeLine := by rw [List.length_map, hl2, sizeLine_eq]; omega
  have k3 : ∀ (b : Addr) (o : Obj), h'.get? b = some o → h2.get? b = some o := k2
  have hp3 : h'.objs.size ≤ p := hp
  have ob : ObjOk X.prog X.w (upd H1 p (.lst ((ascI ns).map V.int))) h2 p (.lst ((ascI ns).map V.int)) := ⟨hlen, out.toList, c2, vals_of_ints hi, hg2⟩
  have hok2 : HOk X.prog X.w H1 h' := I2.hok
  have un : Un (frs X.stack) [] H1 (upd H1 p (.lst ((ascI ns).map V.int))) h' h2 := Un.laid k3 hp3 hn
  exact ⟨.ref p, _, Inv.call (s := { s1 with heap := h', toks := tk }) I2 (ch := []) (h' := h2) (g' := s1.gens) (d' := d2) (t' := t2) un (hok2.laid k3 hp3 ob) I2.bare (fun _ z => nomatch z), rfl, q1 p hn⟩
theorem ef_setSort {a : Expr} {m : ML} {p p2 q pos : Pos} (hg : GlZ Z "sorted") (hm : Z.mg "sorted" = none) (hg2 : GlZ Z "set") (hm2 : Z.mg "set" = none) (ha : LV Z a m)
    (na : ∀ env, starEach [a] env = (false, eval a env) :: starEach [] env := by intro _; rfl) : EF Z (.Call (.Name "sorted" p) [.Call (.Name "set" p2) [a] [] q] [] pos) (mBi dSetSort (bCons m bNil)) := by
  obtain ⟨t, a1, a2⟩ := ha
  refine ⟨tSS Z.K t, fun X i => by have w := pe_setSort (X := X) (p := p) (p2 := p2) (q := q) (pos := pos) (glOf i hg) (by rw [i.mg]; exact hm) (glOf i hg2) (by rw [i.mg]; exact hm2) (a1 X i) i.calm (na _); rw [i.K] at w; exact w, fun g env σ I H Q d env' R hm k => ?_⟩
  unfold mBi at hm
  obtain ⟨⟨ls, en⟩, e1, hm⟩ := Option.bind_eq_some_iff.mp hm
  obtain ⟨ds, e2, hm⟩ := Option.bind_eq_some_iff.mp hm
  obtain ⟨z, e3, hm⟩ := Option.map_eq_some_iff.mp hm
  cases hm
  unfold bCons at e1
  obtain ⟨⟨l, en1⟩, e4, e1⟩ := Option.bind_eq_some_iff.mp e1
  obtain ⟨⟨ls2, en2⟩, e5, e1⟩ := Option.map_eq_some_iff.mp e1
  cases e5
  cases e1
  refine a2 g env σ I H _ _ _ R e4 fun v I1 H1 R1 s1 ov => ?_
  have rb := lsGet_rbs (ls := [l]) R1 (.cons ov .nil) e2
  unfold dSetSort at e3
  split at e3
  · rename_i ds'
    obtain ⟨v', hv, r⟩ := rb.one
    cases hv
    obtain ⟨ns, e6, e3⟩ := Option.bind_eq_some_iff.mp e3
    split at e3
    · rename_i hl
      cases e3
      obtain ⟨b, us, rfl, h1, h2⟩ := r.lst R1.sub
      have e7 := ints_rep e6 h2
      subst e7
      exact ⟨b, ns, rfl, SqL.of h1, hl, fun p hp => k p _ I1 _ (R1.alloc hp _) s1 (R1.new hp) (.lst (reps_ints _))⟩
    · cases e3
  · cases e3
end
end Q
namespace Q
open PySem L2
section
variable {Z : Zc}
/-! ## in, over a list of deep items -/
def dInP (neg : Bool) (x y : D) : Option D := match y with
  | .lst ys => (toP x).bind fun d => (toPs ys).bind fun ds => if (SeqAt.shaped d && SeqAt.shaped (.list ds)) = true then some (.bl (if neg then !(ds.any fun z => PyData.eqv z d) else ds.any fun z => PyData.eqv z d)) else none
  | _ => none
theorem or_inP {X : Cx} (h : InF Z X) : OpR X (compareOp .In) (rInD Z.K) := by
  rw [← h.K]
  exact op_inD (by have := h.room.un; omega)
theorem or_ninP {X : Cx} (h : InF Z X) : OpR X (compareOp .NotIn) (rNotInD Z.K) := by
  rw [← h.K]
  exact op_notInD (by have := h.room.un; omega)
theorem dInP_inv {neg : Bool} {x y z : D} (h : dInP neg x y = some z) : ∃ d ds, toP x = some d ∧ toP y = some (.list ds) ∧ SeqAt.shaped d = true ∧ SeqAt.shaped (.list ds) = true ∧ z = .bl (if neg then !(ds.any fun z => PyData.eqv z d) else ds.any fun z => PyData.eqv z d) := by
  unfold dInP at h
  split at h
  · rename_i ys
    cases e1 : toP x with
    | none => rw [e1] at h; cases h
    | some d =>
      cases e2 : toPs ys with
      | none => rw [e1, e2] at h; cases h
      | some ds =>
        rw [e1, e2] at h
        simp only [Option.bind_some] at h
        split at h
        · rename_i hs
          rw [Bool.and_eq_true] at hs
          cases h
          exact ⟨d, ds, rfl, by unfold toP; rw [e2]; rfl, hs.1, hs.2, rfl⟩
        · cases h
  · cases h
theorem ok_inP : RuleOk Z (rInD Z.K) (dInP false) := by
  intro I H x y z vx vy Q s rx ry h k
  obtain ⟨d, ds, h1, h2, h3, h4, rfl⟩ := dInP_inv h
  exact ⟨d, ds, rx.dp s h1, ry.dp s h2, h3, h4, k _ .bl⟩
theorem ok_ninP : RuleOk Z (rNotInD Z.K) (dInP true) := by
  intro I H x y z vx vy Q s rx ry h
  obtain ⟨d, ds, h1, h2, h3, h4, rfl⟩ := dInP_inv h
  intro k
  exact ⟨d, ds, rx.dp s h1, ry.dp s h2, h3, h4, k _ .bl⟩
end
end Q
namespace Q
open PySem L2
section
variable {Z : Zc}
/-! ## comprehensions over a list that stays its slot's own -/
theorem SR.park {K : PySem.W.Frag} {cl : String → Option Addr} {g : G} {env : En} {σ : L2.St} {I H : Hp} (R : SR K cl g env σ I H) {i : Nat} {xs : List D} (hs : env[i]? = some (.own (.lst xs))) :
    ∃ a vs, σ[i]? = some (some (.ref a)) ∧ Reps K cl I xs vs ∧ (∀ u, (a, u) ∉ g.X) ∧ SR K cl (g.beside a (.lst vs)) (env.set i .un) σ I H := by
  obtain ⟨x, hx, q⟩ := R.at_ i _ hs
  obtain ⟨a, o, rfl, h1, r, h2, h3⟩ := q
  cases r with
  | lst ra =>
    rename_i vs
    have hX : ∀ u, (a, u) ∉ g.X := fun u hu => (R.ex a u hu).2.2 i _ hs rfl hx
    obtain ⟨hi, he⟩ := List.getElem?_eq_some_iff.mp hx
    have hself : σ.set i (some (.ref a)) = σ := by rw [← he]; exact List.set_getElem_self hi
    have R1 := R.setUn hi (x := some (.ref a))
    rw [hself] at R1
    refine ⟨a, vs, hx, ra, hX, R1.put ⟨h1, h2, h3, fun j s hj ht e => ?_, hX⟩⟩
    by_cases hji : i = j
    · subst hji
      rw [List.getElem?_set_self (by rw [R.len]; exact hi)] at hj
      cases hj; cases ht
    · rw [List.getElem?_set_ne hji] at hj
      exact R.dis i j _ s a hji hs hj rfl ht hx e
theorem SR.unpark {K : PySem.W.Frag} {cl : String → Option Addr} {g : G} {env : En} {σ : L2.St} {I H : Hp} {a L : Addr} {vs : List V} {o : HO} (R : SR K cl (g.beside a (.lst vs)) env σ I H) {i : Nat} {xs : List D} (hX : ∀ u, (a, u) ∉ g.X) (hx : σ[i]? = some (some (.ref a))) (ra : Reps K cl I xs vs)
    (n : New (g.beside a (.lst vs)) env σ I H L o) : SR K cl g (env.set i (.own (.lst xs))) σ I H ∧ New g (env.set i (.own (.lst xs))) σ I H L o := by
  obtain ⟨R1, n1⟩ := R.take hX
  obtain ⟨hi, he⟩ := List.getElem?_eq_some_iff.mp hx
  have hself : σ.set i (some (.ref a)) = σ := by rw [← he]; exact List.set_getElem_self hi
  have R2 := R1.setOwn hi n1 (.lst ra)
  rw [hself] at R2
  refine ⟨R2, n.at_, n.i, n.h0, fun j s hj ht e => ?_, fun u hu => n.x u (List.mem_cons_of_mem _ hu)⟩
  by_cases hji : i = j
  · subst hji
    rw [hx] at e
    cases e
    exact n.x _ List.mem_cons_self
  · rw [List.getElem?_set_ne hji] at hj
    exact n.no j s hj ht e
def mLcP (w : Nat) (vs : List Nat) (gf : D → En → Option En) (mt : MT) (me : ME) : ME := fun env => match env[w]? with
  | some (.own (.lst xs)) => if calmAt (env.set w .un) vs = true then (lcLoop gf mt me vs xs [] (env.set w .un)).map fun q => (.lst q.1, (backE (env.set w .un) (wipeE q.2 vs) vs).set w (.own (.lst xs))) else none
  | _ => none
def mDnP (w : Nat) (vs : List Nat) (gf : D → En → Option En) (mt : MT) (mk mv : ME) : ME := fun env => match env[w]? with
  | some (.own (.lst xs)) => if calmAt (env.set w .un) vs = true then (dnLoop gf mt mk mv vs xs [] [] (env.set w .un)).map fun q => (.dcn q.1 q.2.1, (backE (env.set w .un) (wipeE q.2.2 vs) vs).set w (.own (.lst xs))) else none
  | _ => none
theorem lcP_sf {w : Nat} {gt : TG} {tt : TT} {te : TE} {vs : List Nat} {gf : D → En → Option En} {mt : MT} {me : ME} {ix : List Nat} (hnd : vs.Nodup) (hix : ∀ i ∈ ix, i ∈ vs)
    (g2 : ∀ (g : G) (env : En) (σ : St) (I H : Hp) (d : D) (v : V) (Q : St → Hp → Prop) (env' : En), SR Z.K Z.cl g env σ I H → Rep Z.K Z.cl I d v → gf d env = some env' →
      (∀ σ', SR Z.K Z.cl g env' σ' I H → (∀ vs, (∀ i ∈ ix, i ∈ vs) → wipe σ' vs = wipe σ vs) → Q σ' H) → gt v σ H Q)
    (t2 : ST Z tt mt) (e2 : SE Z te me) : SF Z (tLc (iList Z.K (tVar w)) gt tt te vs) (mLcP w vs gf mt me) := by
  intro g0 env σ I H Q d env' R hm k
  unfold mLcP at hm
  split at hm
  · rename_i ds hs
    obtain ⟨a, ws, hxa, rws, hXa, R1⟩ := R.park hs
    split at hm
    · rename_i hcalm
      cases e3 : lcLoop gf mt me vs ds [] (env.set w .un) with
      | none => rw [e3] at hm; cases hm
      | some q =>
        obtain ⟨fin, enf⟩ := q
        rw [e3] at hm; cases hm
        have ha := (R1.ex a _ List.mem_cons_self).1
        refine ⟨_, hxa, a, rfl, ⟨ws, SqL.of ha⟩, fun L hL => ?_⟩
        have hw := walk_list (K := Z.K) (a := a) (xs := ws)
        have hl2 : ws.length = ds.length := rws.length.symm
        obtain ⟨g, hg⟩ : ∃ g, g = g0.beside a (.lst ws) := ⟨_, rfl⟩
        rw [← hg] at R1
        have hin : (a, HO.lst ws) ∈ g.X := by rw [hg]; exact List.mem_cons_self
        have hX : ∀ u, (L, u) ∉ g.X := (R1.new (o := .lst []) hL).x
        refine lc_it hw (fun i H' => ∃ env' I' acc av, SR Z.K Z.cl (g.beside L (.lst av)) (wipeE env' vs) (wipe σ vs) I' H' ∧ Same I I' ∧ Reps Z.K Z.cl I' acc av ∧ lcLoop gf mt me vs (ds.drop i) acc env' = some (fin, enf))
          ⟨env.set w .un, I, [], [], ((R1.alloc hL _).put (R1.new hL)).wipe vs, Same.refl _, .nil, e3⟩ (fun i H' _ ⟨env', I', acc, av, R', s', _⟩ => SqL.of (R'.ex a _ (List.mem_cons_of_mem _ hin)).1) ?_ ?_
        · rintro i x H2 H3 hlt ⟨env2, I2, acc, av, R2, s2, ra, hm2⟩ hyld
          rw [hl2] at hlt
          have hdrop : ds.drop i = ds[i] :: ds.drop (i + 1) := List.drop_eq_getElem_cons hlt
          rw [hdrop] at hm2
          obtain ⟨rfl, hx⟩ := hyld
          have s3 : Same I2 I2 := Same.refl _
          have R3 := R2
          have r3 : Rep Z.K Z.cl I2 ds[i] x := by
            obtain ⟨v, hv, rv⟩ := rws.get (List.getElem?_eq_getElem hlt)
            rw [hv] at hx; cases hx
            exact rv.mono s2
          have I3e : I2 = I2 := rfl
          unfold lcLoop at hm2
          cases q1 : gf ds[i] (wipeE env2 vs) with
          | none => rw [q1] at hm2; cases hm2
          | some en3 =>
            rw [q1] at hm2; simp only [Option.bind_some] at hm2
            refine g2 _ _ _ I2 H3 ds[i] x _ en3 R3 r3 q1 fun σ4 R4 w4 => ?_
            have hwp : wipe σ4 vs = wipe σ vs := by
              rw [w4 vs hix]
              have ww : ∀ (ws us : List Nat) (τ : St), (∀ u ∈ us, u ∈ ws) → wipe (wipe τ us) ws = wipe τ ws := by
                intro ws us
                induction us with
                | nil => intro τ _; rfl
                | cons u us ih =>
                  intro τ hu
                  show wipe ((wipe τ us).set u none) ws = wipe τ ws
                  rw [wipe_set (hu u List.mem_cons_self), ih τ fun v hv => hu v (List.mem_cons_of_mem _ hv)]
              exact ww vs vs σ fun _ h => h
            refine ⟨hwp, ?_⟩
            cases q2 : mt en3 with
            | none => rw [q2] at hm2; cases hm2
            | some p2 =>
              obtain ⟨b, en4⟩ := p2
              rw [q2] at hm2; simp only [Option.bind_some] at hm2
              refine t2 _ _ _ I2 H3 _ b en4 R4 q2 fun I5 H5 R5 s5 => ?_
              cases b with
              | false =>
                simp only [Bool.false_eq_true, if_false] at hm2 ⊢
                have R6 := R5.wipe vs
                rw [hwp] at R6
                exact ⟨en4, I5, acc, av, R6, (s2.trans s3).trans s5, ra.mono (s3.trans s5), hm2⟩
              | true =>
                simp only [if_true] at hm2 ⊢
                cases q3 : me en4 with
                | none => rw [q3] at hm2; cases hm2
                | some p3 =>
                  obtain ⟨y, en5⟩ := p3
                  rw [q3] at hm2; simp only [Option.bind_some] at hm2
                  split at hm2
                  · rename_i hlen
                    refine e2 _ _ _ I5 H5 _ y en5 R5 q3 fun v I6 H6 R6 s6 rv => ?_
                    have ra6 := ra.mono ((s3.trans s5).trans s6)
                    refine ⟨av, (R6.ex L _ List.mem_cons_self).1, by rw [← ra.length]; exact hlen, en5, I6, acc ++ [y], av ++ [v], ?_, ((s2.trans s3).trans s5).trans s6, ra6.append (.cons rv .nil), hm2⟩
                    have R7 := (R6.exSet (o' := .lst (av ++ [v])) hX).wipe vs
                    rw [hwp] at R7
                    exact R7
                  · cases hm2
        · rintro H2 ⟨env2, I2, acc, av, R2, s2, ra, hm2⟩
          rw [hl2, List.drop_length] at hm2
          cases hm2
          have R3 := SR.back R1 vs hnd hcalm R2 s2
          obtain ⟨R4, n4⟩ := R3.take hX
          rw [hg] at R4 n4
          obtain ⟨R5, n5⟩ := R4.unpark hXa hxa (rws.mono s2) n4
          exact k L _ I2 H2 R5 s2 n5 (.lst ra)
    · cases hm
  · cases hm
/-- y = [..] on one line -/
theorem sv_asgLcP {i w : Nat} {yw : Str} {pw : Pos} {y : Str} {py : Pos} {elt tg : Expr} {ifs : List Expr} {scope : Scope} {own : List (Str × Nat)} {pos spos : Pos} {ix : List Nat} {gf : D → En → Option En} {mt : MT} {me : ME} (hN : Z.N[i]? = some y) (hy : Z.sc.names.lookup y = some .local)
    (hk : Z.sc.kind = .function) (hdw : (yw == ("__debug__" : Str)) = false := by decide) (hcw : (yw == ("__classdict__" : Str)) = false := by decide) (hl : (py.line == pos.line) = true := by rfl) (ha : (scope.names.any fun (n, k) => n == y && (k == .local || k == .cell)) = false := by decide +kernel)
    (hNw : Z.N[w]? = some yw) (hvw : Vis Z.sc yw) (ok : BlkOk Z.N Z.sc scope own) (hg : GV (ZB Z scope) tg ix gf) (ht : CV (ZB Z scope) ifs mt)
    (he : EV (ZB Z scope) elt me) (hnd : (own.map (·.2)).Nodup := by decide) (hix : ∀ i ∈ ix, i ∈ own.map (·.2) := by decide) (hs : ∀ env x, foldedSetIterable (.Name yw pw) env x = pure x := by intro _ _; rfl) :
    SV Z (.Assign [.Name y py] (.ListComp elt [⟨tg, (.Name yw pw), ifs, 0⟩] scope pos) spos) (mAsgF i (mLcP w (own.map (·.2)) gf mt me)) := by
  have i1 : ∀ X, InF Z X → PI X tg (.Name yw pw) (iList Z.K (tVar w)) := fun X k => by
    have q := pi_list (X := X) (tg := tg) (pe_var (pos := pw) (by rw [k.N]; exact hNw) (visOf k hvw) hdw hcw)
    rw [k.K] at q
    exact q
  obtain ⟨gt, g1, g2⟩ := hg
  obtain ⟨tt, t1, t2⟩ := ht
  obtain ⟨te, e1, e2⟩ := he
  refine ⟨_, fun X k => ps_setLc k.calm k.nd (by rw [k.N]; exact hN) (by rw [k.sc]; exact hy) (sw_true (by rw [k.sc]; exact hk) (by rw [k.sc]; exact hy) hl ha) (i1 X k) (by rw [k.N, k.sc]; exact ok) (fun s H C cl fp => g1 _ (inB k s H C cl fp)) (fun s H C cl fp => t1 _ (inB k s H C cl fp)) (fun s H C cl fp => e1 _ (inB k s H C cl fp)) (hs _), fun g env σ I H D fl R hm k => ?_⟩
  unfold mAsgF at hm
  cases q1 : mLcP w (own.map (·.2)) gf mt me env with
  | none => rw [q1] at hm; cases hm
  | some r =>
    rw [q1] at hm
    simp only [Option.bind_some] at hm
    split at hm
    · rename_i hi
      cases hm
      exact lcP_sf hnd hix g2 t2 e2 g env σ I H _ r.1 r.2 R q1 fun a o I1 H1 R1 s1 n ro => k _ I1 H1 (R1.setOwn (by rw [← R1.len]; exact hi) n ro) s1
    · cases hm
end
section
open Nd PySem L2
variable {Z : Zc}
theorem dnP_sf {w : Nat} {gt : TG} {tt : TT} {tk tv : TE} {vs : List Nat} {gf : D → En → Option En} {mt : MT} {mk mv : ME} {ix : List Nat} (hnd : vs.Nodup) (hix : ∀ i ∈ ix, i ∈ vs)
    (g2 : ∀ (g : G) (env : En) (σ : L2.St) (I H : Hp) (d : D) (v : V) (Q : L2.St → Hp → Prop) (env' : En), SR Z.K Z.cl g env σ I H → Rep Z.K Z.cl I d v → gf d env = some env' →
      (∀ σ', SR Z.K Z.cl g env' σ' I H → (∀ vs, (∀ i ∈ ix, i ∈ vs) → wipe σ' vs = wipe σ vs) → Q σ' H) → gt v σ H Q)
    (t2 : ST Z tt mt) (k2 : SE Z tk mk) (v2 : SE Z tv mv) : SF Z (tDg (iList Z.K (tVar w)) gt tt tk tv vs rawE (ssN Z.K)) (mDnP w vs gf mt mk mv) := by
  intro g0 env σ I H Q d env' R hm k
  unfold mDnP at hm
  split at hm
  · rename_i ds hs
    obtain ⟨a, ws, hxa, rws, hXa, R1⟩ := R.park hs
    split at hm
    rotate_left
    · cases hm
    rename_i hcalm
    obtain ⟨⟨kf, fin, enf⟩, e3, hm⟩ := Option.map_eq_some_iff.mp hm
    cases hm
    have ha := (R1.ex a _ List.mem_cons_self).1
    refine ⟨_, hxa, a, rfl, ⟨ws, SqL.of ha⟩, fun L hL => ?_⟩
    have hw := walk_list (K := Z.K) (a := a) (xs := ws)
    have hl2 : ws.length = ds.length := rws.length.symm
    obtain ⟨g, hg⟩ : ∃ g, g = g0.beside a (.lst ws) := ⟨_, rfl⟩
    rw [← hg] at R1
    have hin : (a, HO.lst ws) ∈ g.X := by rw [hg]; exact List.mem_cons_self
    have hX : ∀ u, (L, u) ∉ g.X := (R1.new (o := rawE L) hL).x
    refine it_g (e0 := rawE) (SS := ssN Z.K) (H1 := H) (L := L) hw (fun i H' => ∃ env' I' ks acc av bs us, SR Z.K Z.cl (g.beside L (.ext (Raw L (entsN ks bs us)))) (wipeE env' vs) (wipe σ vs) I' H' ∧ Same I I' ∧ Reps Z.K Z.cl I' acc av ∧ Vals av us ∧ KeysAt Z.K I' ks bs ∧ ks.length = acc.length ∧ ks.Nodup ∧ dnLoop gf mt mk mv vs (ds.drop i) ks acc env' = some (kf, fin, enf))
      ⟨env.set w .un, I, [], [], [], [], [], ((R1.alloc hL _).put (R1.new hL)).wipe vs, Same.refl _, .nil, .nil, .nil, rfl, List.nodup_nil, e3⟩ (fun i H' _ ⟨env', I', ks, acc, av, bs, us, R', s', _⟩ => SqL.of (R'.ex a _ (List.mem_cons_of_mem _ hin)).1) ?_ ?_
    · rintro i x H2 H3 hlt ⟨env2, I2, ks, acc, av, bs, us, R2, s2, ra, rvs, rks, hlen0, hnk, hm2⟩ hyld
      rw [hl2] at hlt
      have hdrop : ds.drop i = ds[i] :: ds.drop (i + 1) := List.drop_eq_getElem_cons hlt
      rw [hdrop] at hm2
      obtain ⟨rfl, hx⟩ := hyld
      have s3 : Same I2 I2 := Same.refl _
      have R3 := R2
      have r3 : Rep Z.K Z.cl I2 ds[i] x := by
        obtain ⟨v, hv, rv⟩ := rws.get (List.getElem?_eq_getElem hlt)
        rw [hv] at hx; cases hx
        exact rv.mono s2
      unfold dnLoop at hm2
      obtain ⟨en3, q1, hm2⟩ := Option.bind_eq_some_iff.mp hm2
      refine g2 _ _ _ I2 H3 ds[i] x _ en3 R3 r3 q1 fun σ4 R4 w4 => ?_
      have hwp : wipe σ4 vs = wipe σ vs := by
        rw [w4 vs hix]
        have ww : ∀ (ws us : List Nat) (τ : L2.St), (∀ u ∈ us, u ∈ ws) → wipe (wipe τ us) ws = wipe τ ws := by
          intro ws us
          induction us with
          | nil => intro τ _; rfl
          | cons u us ih =>
            intro τ hu
            show wipe ((wipe τ us).set u none) ws = wipe τ ws
            rw [wipe_set (hu u List.mem_cons_self), ih τ fun v hv => hu v (List.mem_cons_of_mem _ hv)]
        exact ww vs vs σ fun _ h => h
      refine ⟨hwp, ?_⟩
      obtain ⟨⟨b, en4⟩, q2, hm2⟩ := Option.bind_eq_some_iff.mp hm2
      refine t2 _ _ _ I2 H3 _ b en4 R4 q2 fun I5 H5 R5 s5 => ?_
      cases b with
      | false =>
        simp only [Bool.false_eq_true, if_false] at hm2 ⊢
        have R6 := R5.wipe vs
        rw [hwp] at R6
        exact ⟨en4, I5, ks, acc, av, bs, us, R6, (s2.trans s3).trans s5, ra.mono (s3.trans s5), rvs, rks.mono (s3.trans s5), hlen0, hnk, hm2⟩
      | true =>
        simp only [if_true] at hm2 ⊢
        obtain ⟨⟨y, en5⟩, q3, hm2⟩ := Option.bind_eq_some_iff.mp hm2
        obtain ⟨ky, q4, hm2⟩ := Option.bind_eq_some_iff.mp hm2
        obtain ⟨⟨z, en6⟩, q5, hm2⟩ := Option.bind_eq_some_iff.mp hm2
        split at hm2
        · rename_i hlen
          refine k2 _ _ _ I5 H5 _ y en5 R5 q3 fun v I6 H6 R6 s6 rv => ?_
          refine v2 _ _ _ I6 H6 _ z en6 R6 q5 fun u I7 H7 R7 s7 ru => ?_
          have sx : Same I2 I7 := ((s3.trans s5).trans s6).trans s7
          obtain ⟨bk, rfl, hk⟩ := key_fix q4 rv
          have hk7 := hk.mono s7
          have hkl : ks.length = us.length := by rw [hlen0, ra.length, rvs.length]
          refine ⟨ky, bk, L, ks, bs, us, rfl, hk7.mono R7.sub, (R7.ex L _ List.mem_cons_self).1, (rks.mono sx).mono R7.sub, hkl, hnk, by rw [hlen0]; exact hlen, fun uu ruu => ?_⟩
          refine ⟨en6, I7, putN ky ks, putX ky z ks acc, putX ky u ks av, putB ky bk ks bs, putX ky uu ks us, ?_, s2.trans sx, putX_rep ru (ra.mono sx), putX_vals ruu rvs, (rks.mono sx).put hk7, put_length ky z ks acc hlen0, putN_nodup hnk, hm2⟩
          have R8 := (R7.exSet (o' := .ext (Raw L (entsN (putN ky ks) (putB ky bk ks bs) (putX ky uu ks us)))) hX).wipe vs
          rw [hwp] at R8
          exact R8
        · cases hm2
    · rintro H2 ⟨env2, I2, ks, acc, av, bs, us, R2, s2, ra, rvs, rks, hlen0, hnk, hm2⟩
      rw [hl2, List.drop_length] at hm2
      cases hm2
      have R3 := SR.back R1 vs hnd hcalm R2 s2
      obtain ⟨R4, n4⟩ := R3.take hX
      rw [hg] at R4 n4
      obtain ⟨R5, n5⟩ := R4.unpark hXa hxa (rws.mono s2) n4
      exact k L _ I2 H2 R5 s2 n5 (.dcn rks ra rvs hlen0 hnk)
  · cases hm
theorem sv_asgDnP {i w : Nat} {yw : Str} {pw : Pos} {y : Str} {py : Pos} {kx vx tg : Expr} {ifs : List Expr} {scope : Scope} {own : List (Str × Nat)} {pos spos : Pos} {ix : List Nat} {gf : D → En → Option En} {mt : MT} {mk mv : ME} (hN : Z.N[i]? = some y) (hy : Z.sc.names.lookup y = some .local)
    (hk : Z.sc.kind = .function) (hdw : (yw == ("__debug__" : Str)) = false := by decide) (hcw : (yw == ("__classdict__" : Str)) = false := by decide) (hl : (py.line == pos.line) = true := by rfl) (ha : (scope.names.any fun q => q.1 == y && (q.2 == .local || q.2 == .cell)) = false := by decide +kernel)
    (hNw : Z.N[w]? = some yw) (hvw : Vis Z.sc yw) (ok : BlkOk Z.N Z.sc scope own) (hg : GV (ZB Z scope) tg ix gf) (ht : CV (ZB Z scope) ifs mt)
    (hkx : EV (ZB Z scope) kx mk) (hvx : EV (ZB Z scope) vx mv) (hnd : (own.map (·.2)).Nodup := by decide) (hix : ∀ i ∈ ix, i ∈ own.map (·.2) := by decide) (hs : ∀ env x, foldedSetIterable (.Name yw pw) env x = pure x := by intro _ _; rfl) :
    SV Z (.Assign [.Name y py] (.DictComp kx vx [⟨tg, (.Name yw pw), ifs, 0⟩] scope pos) spos) (mAsgF i (mDnP w (own.map (·.2)) gf mt mk mv)) := by
  have i1 : ∀ X, InF Z X → PI X tg (.Name yw pw) (iList Z.K (tVar w)) := fun X k => by
    have q := pi_list (X := X) (tg := tg) (pe_var (pos := pw) (by rw [k.N]; exact hNw) (visOf k hvw) hdw hcw)
    rw [k.K] at q
    exact q
  obtain ⟨gt, g1, g2⟩ := hg
  obtain ⟨tt, t1, t2⟩ := ht
  obtain ⟨tk, k1, k2⟩ := hkx
  obtain ⟨tv, v1, v2⟩ := hvx
  refine ⟨tAsg (tDg (iList Z.K (tVar w)) gt tt tk tv (own.map (·.2)) rawE (ssN Z.K)) (gName i), fun X k => ?_, fun g env σ I H D fl R hm k => ?_⟩
  · have q := ps_putDn (X := X) (pn := py) (cp := pos) (sp := spos) (by have := k.room.units; omega) k.calm k.nd (by rw [k.N]; exact hN) (by rw [k.sc]; exact hy) (swap_dc (by rw [k.sc]; exact hk) (by rw [k.sc]; exact hy) hl ha) (i1 X k) (by rw [k.N, k.sc]; exact ok) (fun s H C cl fp => g1 _ (inB k s H C cl fp)) (fun s H C cl fp => t1 _ (inB k s H C cl fp)) (fun s H C cl fp => k1 _ (inB k s H C cl fp)) (fun s H C cl fp => v1 _ (inB k s H C cl fp)) (hs _)
    rw [k.K] at q
    exact q
  · unfold mAsgF at hm
    obtain ⟨r, q1, hm⟩ := Option.bind_eq_some_iff.mp hm
    split at hm
    · rename_i hi
      cases hm
      exact dnP_sf hnd hix g2 t2 k2 v2 g env σ I H _ r.1 r.2 R q1 fun a o I1 H1 R1 s1 n ro => k _ I1 H1 (R1.setOwn (by rw [← R1.len]; exact hi) n ro) s1
    · cases hm
end
end Q
namespace Q
open PySem L2
/-! ## for k in d: the dict is locked while it is walked -/
section
variable {K : PySem.W.Frag} {cl : String → Option Addr} {I : Hp} {a : Addr} {od : Obj} {kvs : List (Key × V)}
theorem sqT_unl {b : Addr} {vs : List V} (ha : I a = some (.frz od (.dK kvs))) (h : SqT K I b vs) : SqT K (upd I a (.dK kvs)) b vs := by
  have ne : ∀ u, I b = some u → (∀ od kvs, u ≠ .frz od (.dK kvs)) → upd I a (.dK kvs) b = I b := fun u e n => by
    by_cases z : b = a
    · subst z; rw [ha] at e; cases e; exact absurd rfl (n _ _)
    · exact upd_ne z
  rcases h with (h | ⟨o, h⟩) | h
  · exact .inl (.inl (by rw [ne _ h (fun _ _ z => nomatch z)]; exact h))
  · exact .inl (.inr ⟨o, by rw [ne _ h (fun _ _ z => nomatch z)]; exact h⟩)
  · exact .inr h
theorem sqL_unl {b : Addr} {vs : List V} (ha : I a = some (.frz od (.dK kvs))) (h : SqL K I b vs) : SqL K (upd I a (.dK kvs)) b vs := by
  have ne : ∀ u, I b = some u → (∀ od kvs, u ≠ .frz od (.dK kvs)) → upd I a (.dK kvs) b = I b := fun u e n => by
    by_cases z : b = a
    · subst z; rw [ha] at e; cases e; exact absurd rfl (n _ _)
    · exact upd_ne z
  rcases h with (h | ⟨o, h⟩) | h
  · exact .inl (.inl (by rw [ne _ h (fun _ _ z => nomatch z)]; exact h))
  · exact .inl (.inr ⟨o, by rw [ne _ h (fun _ _ z => nomatch z)]; exact h⟩)
  · exact .inr h
theorem KeysAt.unl (ha : I a = some (.frz od (.dK kvs))) : ∀ {ks : List (List Int)} {bs : List Addr}, KeysAt K I ks bs → KeysAt K (upd I a (.dK kvs)) ks bs
  | _, _, .nil => .nil
  | _, _, .cons ⟨vs, h, e⟩ t => .cons ⟨vs, sqT_unl ha h, e⟩ (KeysAt.unl ha t)
theorem ObjRep.nofrz {d : D} {od : Obj} {u : HO} (h : ObjRep K cl I d (.frz od u)) : False := by cases h
mutual
theorem Rep.unl (ha : I a = some (.frz od (.dK kvs))) : ∀ {d : D} {v : V}, Rep K cl I d v → Rep K cl (upd I a (.dK kvs)) d v
  | _, _, .non => .non
  | _, _, .bl => .bl
  | _, _, .int => .int
  | _, _, .str => .str
  | _, _, .typ => .typ
  | _, _, .scr h r => .scr (sqL_unl ha h) (Reps.unl ha r)
  | _, _, .tup h r => .tup (sqT_unl ha h) (Reps.unl ha r)
  | _, _, .obj (a := b) h r => by
    have z : b ≠ a := fun z => by rw [z, ha] at h; cases h; exact r.nofrz
    exact .obj (by rw [upd_ne z]; exact h) (ObjRep.unl ha r)
  | _, _, .fz (a := b) h r => by
    by_cases z : b = a
    · have h' := h
      rw [z, ha] at h'
      cases h'
      rw [z]
      exact .obj upd_same (ObjRep.unl ha r)
    · exact .fz (by rw [upd_ne z]; exact h) (ObjRep.unl ha r)
theorem Reps.unl (ha : I a = some (.frz od (.dK kvs))) : ∀ {ds : List D} {vs : List V}, Reps K cl I ds vs → Reps K cl (upd I a (.dK kvs)) ds vs
  | _, _, .nil => .nil
  | _, _, .cons r t => .cons (Rep.unl ha r) (Reps.unl ha t)
theorem ObjRep.unl (ha : I a = some (.frz od (.dK kvs))) : ∀ {d : D} {o : HO}, ObjRep K cl I d o → ObjRep K cl (upd I a (.dK kvs)) d o
  | _, _, .lst r => .lst (Reps.unl ha r)
  | _, _, .dic r e => .dic (Reps.unl ha r) e
  | _, _, .obj c r e => .obj c (Reps.unl ha r) e
  | _, _, .dcn h r v e n => .dcn (h.unl ha) (Reps.unl ha r) v e n
end
variable {g : G} {env : En} {σ : L2.St} {H : Hp}
theorem SR.unlock (R : SR K cl g env σ I H) (ha : I a = some (.frz od (.dK kvs))) (h0 : g.H0 a = none) (hi0 : g.I0 a = none) : SR K cl g env σ (upd I a (.dK kvs)) (upd H a (.dK kvs)) := by
  have hI : ∀ b, I b = none → b ≠ a := fun b e z => by subst z; rw [ha] at e; cases e
  have hH : H a = some (.frz od (.dK kvs)) := R.sub a _ ha
  have top : ∀ (b : Addr) (o : HO) (d : D), H b = some o → ObjRep K cl I d o → b ≠ a := fun b o d e r z => by subst z; rw [hH] at e; cases e; exact r.nofrz
  refine ⟨fun b u e => ?_, fun b u e => ?_, fun b o e1 e2 e3 => ?_, fun b o e1 e2 => ?_, fun b hb => ?_, R.len, fun i s e => ?_, R.dis, fun b o hb => ?_, R.ex0, fun b ht => ?_⟩
  · by_cases z : b = a
    · subst z; rw [upd_same] at e ⊢; exact e
    · rw [upd_ne z] at e ⊢; exact R.sub b u e
  · have z : b ≠ a := fun z => by subst z; rw [hi0] at e; cases e
    rw [upd_ne z]; exact R.i0 b u e
  · have z : b ≠ a := fun z => by subst z; rw [h0] at e1; cases e1
    rw [upd_ne z]; exact R.h0 b o e1 e2 e3
  · have z : b ≠ a := fun z => by subst z; rw [h0] at e1; cases e1
    rw [upd_ne z]; exact R.hi b o e1 e2
  · obtain ⟨⟨o, h1⟩, h2, h3⟩ := R.oh b hb
    have z := hI b h2
    exact ⟨⟨o, by rw [upd_ne z]; exact h1⟩, by rw [upd_ne z]; exact h2, h3⟩
  · obtain ⟨x, hx, q⟩ := R.at_ i s e
    refine ⟨x, hx, ?_⟩
    cases s with
    | un => exact True.intro
    | imm d => obtain ⟨v, rfl, r⟩ := q; exact ⟨v, rfl, r.unl ha⟩
    | bor d => obtain ⟨b, rfl, o, h1, r⟩ := q; exact ⟨b, rfl, o, by rw [upd_ne (top b o d h1 r)]; exact h1, r.unl ha⟩
    | own d => obtain ⟨b, o, rfl, h1, r, h2, h3⟩ := q; exact ⟨b, o, rfl, by rw [upd_ne (hI b h2)]; exact h1, r.unl ha, by rw [upd_ne (hI b h2)]; exact h2, h3⟩
    | lck d => obtain ⟨b, o, rfl, h1, r, h2, h3⟩ := q; exact ⟨b, o, rfl, by rw [upd_ne (hI b h2)]; exact h1, r.unl ha, by rw [upd_ne (hI b h2)]; exact h2, h3⟩
    | io k d => obtain ⟨b, o, rfl, h0, h1, r⟩ := q; exact ⟨b, o, rfl, h0, by rw [upd_ne (top b o d h1 r)]; exact h1, r.unl ha⟩
  · obtain ⟨h1, h2, h3⟩ := R.ex b o hb
    exact ⟨by rw [upd_ne (hI b h2)]; exact h1, by rw [upd_ne (hI b h2)]; exact h2, h3⟩
  · obtain ⟨t1, ⟨ps, t2, t3⟩, v, t4⟩ := R.tb b ht
    exact ⟨by rw [upd_ne (hI b t1)]; exact t1, ⟨ps, by rw [upd_ne (hI b t1)]; exact t2, t3⟩, v, t4⟩
theorem SR.lockOwn (R : SR K cl g env σ I H) {i : Nat} {ks : List Key} {xs : List D} (hs : env[i]? = some (.own (.dic ks xs))) :
    ∃ a vs, σ[i]? = some (some (.ref a)) ∧ H a = some (.dK (ks.zip vs)) ∧ Reps K cl I xs vs ∧ ks.length = xs.length ∧ I a = none ∧ g.H0 a = none ∧ g.I0 a = none ∧ ∀ od, SR K cl g (env.set i (.imm (.dic ks xs))) σ (upd I a (.frz od (.dK (ks.zip vs)))) (upd H a (.frz od (.dK (ks.zip vs)))) ∧ Same I (upd I a (.frz od (.dK (ks.zip vs)))) := by
  obtain ⟨x, hx, q⟩ := R.at_ i _ hs
  obtain ⟨a, o, rfl, h1, r, h2, h3⟩ := q
  obtain ⟨vs, rfl, ra, hl⟩ := r.dic_inv
  have hX : ∀ u, (a, u) ∉ g.X := fun u hu => (R.ex a u hu).2.2 i _ hs rfl hx
  obtain ⟨hi, he⟩ := List.getElem?_eq_some_iff.mp hx
  have hself : σ.set i (some (.ref a)) = σ := by rw [← he]; exact List.set_getElem_self hi
  have hi0 : g.I0 a = none := by
    cases e : g.I0 a with
    | none => rfl
    | some u => have := R.i0 a u e; rw [h2] at this; cases this
  refine ⟨a, vs, hx, h1, ra, hl, h2, h3, hi0, fun od => ?_⟩
  have R1 := R.setUn hi (x := some (.ref a))
  rw [hself] at R1
  have R2 := R1.put (p := a) (o := .dK (ks.zip vs)) ⟨h1, h2, h3, fun j s hj ht e => by
    by_cases hji : i = j
    · subst hji
      rw [List.getElem?_set_self (by rw [R.len]; exact hi)] at hj
      cases hj; cases ht
    · rw [List.getElem?_set_ne hji] at hj
      exact R.dis i j _ s a hji hs hj rfl ht hx e, hX⟩
  obtain ⟨R3, n3⟩ := (R2.exSet (o' := .frz od (.dK (ks.zip vs))) hX).take hX
  obtain ⟨R4, s4⟩ := R3.freeze n3
  have R5 := R4.setImm (i := i) (d := .dic ks xs) (v := .ref a) hi (.fz upd_same (.dic (ra.mono s4) hl))
  rw [hself, List.set_set] at R5
  exact ⟨R5, s4⟩
end
section
variable {Z : Zc}
def kD : Key → D
  | .inl i => .int i
  | .inr s => .str s
theorem kD_rep {K : PySem.W.Frag} {cl : String → Option Addr} {I : Hp} (k : Key) : Rep K cl I (kD k) (kV k) := by
  cases k with
  | inl i => exact .int
  | inr s => exact .str
def mForK (w : Nat) (gf : D → En → Option En) (body : MS) : MS := fun env => match env[w]? with
  | some (.own (.dic ks xs)) => mFor gf body (ks.map kD) (env.set w (.imm (.dic ks xs)))
  | _ => none
theorem sv_forK {w : Nat} {yw : Str} {pw : Pos} {tg : Expr} {b : List Stmt} {ix : List Nat} {gf : D → En → Option En} {mb : MS} {pos : Pos} (hNw : Z.N[w]? = some yw) (hvw : Vis Z.sc yw) (hg : GV Z tg ix gf) (hb : BV Z b mb)
    (hdw : (yw == ("__debug__" : Str)) = false := by decide) (hcw : (yw == ("__classdict__" : Str)) = false := by decide) (hs : ∀ env x, foldedSetIterable (.Name yw pw) env x = pure x := by intro _ _; rfl) : SV Z (.For tg (.Name yw pw) b [] pos) (mForK w gf mb) := by
  obtain ⟨gt, g1, g2⟩ := hg
  obtain ⟨tb, b1, b2⟩ := hb
  refine ⟨tLock (tFor (iKeys (tVar w)) gt tb), fun X k => ps_lock (ps_for k.own k.calm (pi_keys (pe_var (pos := pw) (by rw [k.N]; exact hNw) (visOf k hvw) hdw hcw)) (g1 X k) (b1 X k) (hs _)), fun g env σ I H D fl R hm k => ?_⟩
  unfold mForK at hm
  split at hm
  · rename_i ks xs hs
    obtain ⟨a, vs, hxa, hHa, rws, hl, hIa, h0a, hi0, hlk⟩ := R.lockOwn hs
    have hlen : (ks.zip vs).length = ks.length := by rw [List.length_zip, ← rws.length, ← hl, Nat.min_self]
    refine ⟨a, .dK (ks.zip vs), hHa, True.intro, fun od => ?_⟩
    obtain ⟨R1, s1⟩ := hlk od
    obtain ⟨I1, hI1⟩ : ∃ I1, I1 = upd I a (.frz od (.dK (ks.zip vs))) := ⟨_, rfl⟩
    have hI1a : I1 a = some (.frz od (.dK (ks.zip vs))) := by rw [hI1]; exact upd_same
    rw [← hI1] at R1 s1
    have back : ∀ (e : En) (σ5 : L2.St) (I5 H5 : Hp), SR Z.K Z.cl g e σ5 I5 H5 → Same I1 I5 → H5 a = some (.frz od (.dK (ks.zip vs))) ∧ I5 a = some (.frz od (.dK (ks.zip vs))) ∧ SR Z.K Z.cl g e σ5 (upd I5 a (.dK (ks.zip vs))) (upd H5 a (.dK (ks.zip vs))) ∧ Same I (upd I5 a (.dK (ks.zip vs))) := fun e σ5 I5 H5 R5 s5 => by
      have e5 := s5 a _ hI1a
      refine ⟨R5.sub a _ e5, e5, R5.unlock e5 h0a hi0, fun b u hb => ?_⟩
      have z : b ≠ a := fun z => by subst z; rw [hIa] at hb; cases hb
      rw [upd_ne z]
      exact s5 b u (s1 b u hb)
    refine ⟨_, hxa, a, od, rfl, .inl ⟨ks.zip vs, upd_same, ?_⟩⟩
    refine for_it (walk_keys (d := a) (o := od) (kvs := ks.zip vs)) (fun i σ' H' => ∃ env' I', SR Z.K Z.cl g env' σ' I' H' ∧ Same I1 I' ∧ mFor gf mb ((ks.map kD).drop i) env' = some fl) ⟨_, I1, R1, Same.refl _, hm⟩ (fun i σ' H' _ ⟨env', I', R', s', _⟩ => (back _ _ _ _ R' s').1) ?_ ?_
    · rintro i x σ2 H2 H3 hlt ⟨env2, I2, R2, s2, hm2⟩ ⟨rfl, kk, v, hkv, rfl⟩
      rw [hlen] at hlt
      have hkk : ks[i]? = some kk := by
        rw [List.getElem?_zip_eq_some] at hkv
        exact hkv.1
      have hd : (ks.map kD)[i]? = some (kD kk) := by rw [List.getElem?_map, hkk]; rfl
      obtain ⟨hlt2, hde⟩ := List.getElem?_eq_some_iff.mp hd
      have hdrop : (ks.map kD).drop i = kD kk :: (ks.map kD).drop (i + 1) := by rw [List.drop_eq_getElem_cons hlt2, hde]
      rw [hdrop] at hm2
      unfold mFor at hm2
      cases e2 : gf (kD kk) env2 with
      | none => rw [e2] at hm2; cases hm2
      | some en2 =>
        rw [e2] at hm2; simp only [Option.bind_some] at hm2
        refine g2 g env2 σ2 I2 H3 (kD kk) (kV kk) _ en2 R2 (kD_rep kk) e2 fun σ4 R4 _ => ?_
        cases e3 : mb en2 with
        | none => rw [e3] at hm2; cases hm2
        | some f =>
          rw [e3] at hm2; simp only [Option.bind_some] at hm2
          refine b2 g en2 σ4 I2 H3 _ f R4 e3 ?_
          cases f with
          | nx e => exact fun σ5 I5 H5 R5 s5 => ⟨e, I5, R5, s2.trans s5, hm2⟩
          | ct e => exact fun σ5 I5 H5 R5 s5 => ⟨e, I5, R5, s2.trans s5, hm2⟩
          | bk e =>
            cases hm2
            exact fun σ5 I5 H5 R5 s5 => by
              obtain ⟨q1, q2, q3, q4⟩ := back _ _ _ _ R5 (s2.trans s5)
              exact ⟨q1, k σ5 _ _ q3 q4⟩
          | ret md r e =>
            cases hm2
            exact fun σ5 I5 H5 v R5 s5 hr => by
              obtain ⟨q1, q2, q3, q4⟩ := back _ _ _ _ R5 (s2.trans s5)
              refine ⟨q1, k σ5 _ _ v q3 q4 ?_⟩
              cases md with
              | imm => exact Rep.unl q2 hr
              | new =>
                obtain ⟨p, o, rfl, n, ro⟩ := hr
                have z : p ≠ a := fun z => by have n' := n.i; rw [z, q2] at n'; cases n'
                exact ⟨p, o, rfl, ⟨by rw [upd_ne z]; exact n.at_, by rw [upd_ne z]; exact n.i, n.h0, n.no, n.x⟩, ro.unl q2⟩
    · rintro σ2 H2 ⟨env2, I2, R2, s2, hm2⟩
      rw [hlen, ← List.length_map (f := kD), List.drop_length] at hm2
      cases hm2
      obtain ⟨q1, q2, q3, q4⟩ := back _ _ _ _ R2 s2
      exact ⟨q1, k σ2 _ _ q3 q4⟩
  · cases hm
end
end Q
namespace Q
open PySem L2
section
variable {Z : Zc}
/-! ## dict(list of pairs) -/
def pairD : D → Option (Key × D)
  | .tup [k, v] => k.key?.map fun q => (q, v)
  | _ => none
def pairsD : List D → Option (List (Key × D))
  | [] => some []
  | x :: xs => (pairD x).bind fun p => (pairsD xs).map fun ps => p :: ps
def mergD : List (Key × D) → List Key → List D → List Key × List D
  | [], ks, xs => (ks, xs)
  | p :: ps, ks, xs => mergD ps (putKK p.1 ks) (putKD p.1 p.2 ks xs)
def dDictP : List D → Option D
  | [.lst xs] => (pairsD xs).map fun ps => .dic (mergD ps [] []).1 (mergD ps [] []).2
  | _ => none
def rDictP (K : PySem.W.Frag) : List V → Hp → VK → Prop := fun xs H Q => ∃ (a : Addr) (ps : List Addr) (kvs : List (Key × V)), xs = [.ref a] ∧ SqL K H a (ps.map V.ref) ∧ Paired (fun p kv => SqT K H p [kV kv.1, kv.2]) ps kvs ∧
  ∀ p, H p = none → Q (.ref p) (upd H p (.dK (mergeK [] kvs)))
theorem cr_dictP {X : Cx} (h : InF Z X) : CallR X (.type "dict") (rDictP Z.K) := by rw [← h.K]; exact call_dictP h.calm
theorem pairs_rep {I H : Hp} (s : Same I H) : ∀ {xs : List D} {vs : List V} {ps : List (Key × D)}, pairsD xs = some ps → Reps Z.K Z.cl I xs vs →
    ∃ (as : List Addr) (kvs : List (Key × V)), vs = as.map V.ref ∧ Paired (fun p kv => SqT Z.K H p [kV kv.1, kv.2]) as kvs ∧ kvs.map (·.1) = ps.map (·.1) ∧ Reps Z.K Z.cl I (ps.map (·.2)) (kvs.map (·.2))
  | [], [], ps, h, .nil => by cases h; exact ⟨[], [], rfl, .nil, rfl, .nil⟩
  | x :: xs, v :: vs, ps, h, .cons r rs => by
    unfold pairsD at h
    obtain ⟨p, h1, h⟩ := Option.bind_eq_some_iff.mp h
    obtain ⟨qs, h2, rfl⟩ := Option.map_eq_some_iff.mp h
    obtain ⟨as, kvs, rfl, e1, e2, e3⟩ := pairs_rep s h2 rs
    unfold pairD at h1
    split at h1
    · rename_i k d
      obtain ⟨q, hk, rfl⟩ := Option.map_eq_some_iff.mp h1
      obtain ⟨a, us, rfl, ht, ru⟩ := r.tup_inv
      cases ru with
      | cons rk ru =>
        cases ru with
        | cons rd ru =>
          cases ru
          have hkv := key_rep (H := H) hk (.inl rk)
          subst hkv
          rename_i u
          exact ⟨a :: as, (q, u) :: kvs, rfl, .cons (SqT.mono s ht) e1, by simp [e2], .cons rd e3⟩
    · cases h1
theorem merg_rep {I : Hp} : ∀ {ps : List (Key × D)} {kvs : List (Key × V)} {ks : List Key} {xs : List D} {vs : List V}, kvs.map (·.1) = ps.map (·.1) → Reps Z.K Z.cl I (ps.map (·.2)) (kvs.map (·.2)) → Reps Z.K Z.cl I xs vs → ks.length = xs.length →
    ∃ ws, mergeK (ks.zip vs) kvs = (mergD ps ks xs).1.zip ws ∧ Reps Z.K Z.cl I (mergD ps ks xs).2 ws ∧ (mergD ps ks xs).1.length = (mergD ps ks xs).2.length
  | [], [], ks, xs, vs, _, _, r, h => ⟨vs, rfl, r, h⟩
  | [], _ :: _, _, _, _, e, _, _, _ => by cases e
  | _ :: _, [], _, _, _, e, _, _, _ => by cases e
  | p :: ps, kv :: kvs, ks, xs, vs, e, rr, r, h => by
    simp only [List.map_cons, List.cons.injEq] at e rr
    obtain ⟨e1, e2⟩ := e
    cases rr with
    | cons r1 r2 =>
      obtain ⟨ws, h1, h2, h3⟩ := putK_rep (k := p.1) r1 r h
      obtain ⟨us, g1, g2, g3⟩ := merg_rep (ps := ps) (kvs := kvs) e2 r2 h2 h3
      refine ⟨us, ?_, g2, g3⟩
      show mergeK (putK (ks.zip vs) kv.1 kv.2) kvs = _
      rw [e1, h1]; exact g1
theorem ok_dictP : RuleCN Z (rDictP Z.K) dDictP := by
  intro I H xs z vs Q s rs h k
  unfold dDictP at h
  split at h
  · rename_i ys
    obtain ⟨ps, hp, rfl⟩ := Option.map_eq_some_iff.mp h
    obtain ⟨v, rfl, r⟩ := rs.one
    obtain ⟨a, us, rfl, h1, h2⟩ := r.lst s
    obtain ⟨as, kvs, rfl, e1, e2, e3⟩ := pairs_rep s hp h2
    obtain ⟨ws, g1, g2, g3⟩ := merg_rep (ks := []) (xs := []) (vs := []) e2 e3 .nil rfl
    refine ⟨a, as, kvs, rfl, SqL.of h1, e1, fun p hp => ?_⟩
    rw [show ([] : List (Key × V)) = ([] : List Key).zip ([] : List V) from rfl, g1]
    exact k p _ hp (.dic g2 g3)
  · cases h
/-! ## a name that a comprehension reads, given a comprehension -/
theorem swap_cell {v : Expr} {nm : Str} {pn : Pos} {l : Nat} {env : Env} (hy : env.scope.names.lookup nm = some .cell) : swapsWithSole [.Name nm pn] v l env = pure false := by
  have e1 : env.kindOf nm = some .cell := hy
  show swapsWith v (some (.Name nm pn)) l env = pure false
  unfold swapsWith
  cases v <;> first
    | rfl
    | (simp only [e1]
       show pure (env.blockKind == ScopeKind.function && (some NameKind.cell == some NameKind.local) && _ && _) = _
       have e2 : (some NameKind.cell == some NameKind.local) = false := by decide
       rw [e2, Bool.and_false, Bool.false_and, Bool.false_and])
theorem sv_asgFC {i : Nat} {x : Str} {e : Expr} {m : ME} {p pos : Pos} (hN : Z.N[i]? = some x) (hv : LocZ Z x) (hy : Z.sc.names.lookup x = some .cell) (h : EF Z e m) (hw : ∀ env, swappedStores [.Name x p] e env = pure none := by intro _; rfl)
    (h1 : ∀ env, (assignEach [.Name x p] env).map (·.2) = [assign (.Name x p) env] := by intro _; rfl) : SV Z (.Assign [.Name x p] e pos) (mAsgF i m) := by
  obtain ⟨t, q1, q2⟩ := h
  refine ⟨_, fun X k => ps_asg (q1 X k) (pg_name k.nd (by rw [k.N]; exact hN) (locOf k hv).1 (locOf k hv).2) (swap_cell (by rw [k.sc]; exact hy)) (hw _) (h1 _), fun g env σ I H D fl R hm k => ?_⟩
  unfold mAsgF at hm
  obtain ⟨r, e1, hm⟩ := Option.bind_eq_some_iff.mp hm
  split at hm
  · rename_i hi
    cases hm
    exact q2 g env σ I H _ r.1 r.2 R e1 fun a o I1 H1 R1 s1 n ro => k _ I1 H1 (R1.setOwn (by rw [← R1.len]; exact hi) n ro) s1
  · cases hm
end
end Q
namespace Q
open PySem L2
section
variable {Z : Zc}
/-! ## [elt for .. for ..] -/
theorem walk_go {J : It} {n : Nat} {Ok : Hp → Prop} {Y : Nat → Hp → V → Hp → Prop} (w : Walk J n Ok Y) {H0 : Hp} {Qd : Hp → Prop} {B : (Hp → Prop) → V → Hp → Prop} (Pv : Nat → Hp → Prop) (h0 : Pv 0 H0) (hG : ∀ i H, i ≤ n → Pv i H → Ok H)
    (hs : ∀ i x H H', i < n → Pv i H → Y i H x H' → B (Pv (i + 1)) x H') (hd : ∀ H, Pv n H → Qd H) :
    ∃ W : Nat → Nat → Hp → Prop, (∃ m, W 0 m H0) ∧ ∀ i m H, W i m H → (J.stop i H ∧ Qd H) ∨ (J.go i H ∧ ∃ Nx : Hp → Prop, (∀ H', Nx H' → ∃ m', m' < m ∧ W (i + 1) m' H') ∧ ∀ x H', J.yld i H x H' → B Nx x H') := by
  refine ⟨fun i m H => m + i = n ∧ Pv i H, ⟨n, rfl, h0⟩, ?_⟩
  rintro i m H ⟨hm, p⟩
  have hi : i ≤ n := by omega
  by_cases hlt : i < n
  · exact .inr ⟨w.goes i H hlt (hG i H hi p), Pv (i + 1), fun H' p' => ⟨m - 1, by omega, by omega, p'⟩, fun x H' y => hs i x H H' hlt p (w.yields i H x H' hlt (hG i H hi p) y)⟩
  · obtain rfl : i = n := by omega
    exact .inl ⟨w.stops H (hG i H hi p), hd H p⟩
theorem wipe_wipe {σ τ : St} {us vs : List Nat} (h : wipe τ us = wipe σ us) (hu : ∀ u ∈ us, u ∈ vs) : wipe τ vs = wipe σ vs := by
  have ww : ∀ (us : List Nat) (τ : St), (∀ u ∈ us, u ∈ vs) → wipe (wipe τ us) vs = wipe τ vs := by
    intro us
    induction us with
    | nil => intro τ _; rfl
    | cons u us ih =>
      intro τ hu
      show wipe ((wipe τ us).set u none) vs = wipe τ vs
      rw [wipe_set (hu u List.mem_cons_self), ih τ fun v hv => hu v (List.mem_cons_of_mem _ hv)]
  rw [← ww us τ hu, h, ww us σ hu]
theorem wipe_self (σ : St) (vs : List Nat) : wipe (wipe σ vs) vs = wipe σ vs := by
  have ww : ∀ (us : List Nat) (τ : St), (∀ u ∈ us, u ∈ vs) → wipe (wipe τ us) vs = wipe τ vs := by
    intro us
    induction us with
    | nil => intro τ _; rfl
    | cons u us ih =>
      intro τ hu
      show wipe ((wipe τ us).set u none) vs = wipe τ vs
      rw [wipe_set (hu u List.mem_cons_self), ih τ fun v hv => hu v (List.mem_cons_of_mem _ hv)]
  exact ww vs σ fun _ h => h
def lc2Loop (gf : D → En → Option En) (mt : MT) (mi1 : MI) (gf1 : D → En → Option En) (mt1 : MT) (me : ME) (vs vs1 : List Nat) : List D → List D → En → Option (List D × En)
  | [], acc, env => some (acc, env)
  | d :: ds, acc, env => (gf d (wipeE env vs)).bind fun e1 => (mt e1).bind fun p =>
    if p.1 then (mi1 p.2).bind fun q => (lcLoop gf1 mt1 me vs1 q.1 acc q.2).bind fun r => lc2Loop gf mt mi1 gf1 mt1 me vs vs1 ds r.1 (wipeE r.2 vs1)
    else lc2Loop gf mt mi1 gf1 mt1 me vs vs1 ds acc p.2
def mLc2 (vs vs1 : List Nat) (mi : MI) (gf : D → En → Option En) (mt : MT) (mi1 : MI) (gf1 : D → En → Option En) (mt1 : MT) (me : ME) : ME := fun env => (mi env).bind fun p => if calmAt p.2 vs = true then (lc2Loop gf mt mi1 gf1 mt1 me vs vs1 p.1 [] p.2).map fun q => (.lst q.1, backE p.2 (wipeE q.2 vs) vs) else none
theorem lc2_sf {Z1 : Zc} {wi wi1 : TI} {gt gt1 : TG} {tt tt1 : TT} {te : TE} {vs vs1 : List Nat} {mi mi1 : MI} {gf gf1 : D → En → Option En} {mt mt1 : MT} {me : ME} {ix ix1 : List Nat} (hZ : Z1.K = Z.K) (hcl : Z1.cl = Z.cl) (hnd : vs.Nodup) (hix : ∀ i ∈ ix, i ∈ vs) (hix1 : ∀ i ∈ ix1, i ∈ vs1) (hv : ∀ i ∈ vs1, i ∈ vs) (i2 : SI Z wi mi) (i21 : SI Z1 wi1 mi1)
    (g2 : ∀ (g : G) (env : En) (σ : St) (I H : Hp) (d : D) (v : V) (Q : St → Hp → Prop) (env' : En), SR Z.K Z.cl g env σ I H → Rep Z.K Z.cl I d v → gf d env = some env' →
      (∀ σ', SR Z.K Z.cl g env' σ' I H → (∀ vs, (∀ i ∈ ix, i ∈ vs) → wipe σ' vs = wipe σ vs) → Q σ' H) → gt v σ H Q)
    (g21 : ∀ (g : G) (env : En) (σ : St) (I H : Hp) (d : D) (v : V) (Q : St → Hp → Prop) (env' : En), SR Z.K Z.cl g env σ I H → Rep Z.K Z.cl I d v → gf1 d env = some env' →
      (∀ σ', SR Z.K Z.cl g env' σ' I H → (∀ vs, (∀ i ∈ ix1, i ∈ vs) → wipe σ' vs = wipe σ vs) → Q σ' H) → gt1 v σ H Q)
    (t2 : ST Z tt mt) (t21 : ST Z tt1 mt1) (e2 : SE Z te me) : SF Z (tLc2 wi gt tt wi1 gt1 tt1 te vs vs1) (mLc2 vs vs1 mi gf mt mi1 gf1 mt1 me) := by
  intro g env σ I H Q d env' R hm k
  unfold mLc2 at hm
  obtain ⟨⟨ds, en⟩, e1, hm⟩ := Option.bind_eq_some_iff.mp hm
  dsimp only at hm
  split at hm
  rotate_left
  · cases hm
  rename_i hcalm
  obtain ⟨⟨fin, enf⟩, e3, hm⟩ := Option.map_eq_some_iff.mp hm
  cases hm
  refine i2 g env σ I H _ ds en R e1 fun J I1 H1 R1 s1 wd L hL => ?_
  obtain ⟨Gd, Y, hw, hgd, hy⟩ := wd
  have hX : ∀ u, (L, u) ∉ g.X := (R1.new (o := .lst []) hL).x
  refine walk_go (H0 := upd H1 L (.lst [])) (Qd := fun H => Q (.ref L) H) (B := fun Nx x H' => gt x (wipe σ vs) H' fun σ2 H2 => wipe σ2 vs = wipe σ vs ∧ tt σ2 H2 fun b H3 =>
      if b = true then wi1 σ2 H3 fun J1 H4 => ∃ W1 : Nat → Nat → Hp → Prop, (∃ m, W1 0 m H4) ∧ ∀ j k H, W1 j k H →
        (J1.stop j H ∧ Nx H) ∨ (J1.go j H ∧ ∃ Nx1 : Hp → Prop, (∀ H', Nx1 H' → ∃ k', k' < k ∧ W1 (j + 1) k' H') ∧ ∀ x H', J1.yld j H x H' → gt1 x (wipe σ2 vs1) H' fun σ3 H5 => wipe σ3 vs1 = wipe σ2 vs1 ∧ tt1 σ3 H5 fun b H6 =>
          if b = true then te σ3 H6 fun y H7 => ∃ acc, H7 L = some (.lst acc) ∧ acc.length < sizeLine ∧ Nx1 (upd H7 L (.lst (acc ++ [y]))) else Nx1 H6)
      else Nx H3) hw (fun i H' => ∃ env' I' acc av, SR Z.K Z.cl (g.beside L (.lst av)) (wipeE env' vs) (wipe σ vs) I' H' ∧ Same I1 I' ∧ Reps Z.K Z.cl I' acc av ∧ lc2Loop gf mt mi1 gf1 mt1 me vs vs1 (ds.drop i) acc env' = some (fin, enf))
    ⟨en, I1, [], [], ((R1.alloc hL _).put (R1.new hL)).wipe vs, Same.refl _, .nil, e3⟩ (fun i H' _ ⟨env', I', acc, av, R', s', _⟩ => hgd I' H' s' R'.sub) ?_ ?_
  · rintro i x H2 H3 hlt ⟨env2, I2, acc, av, R2, s2, ra, hm2⟩ hyld
    have hd : ds[i]? = some ds[i] := List.getElem?_eq_getElem hlt
    have hdrop : ds.drop i = ds[i] :: ds.drop (i + 1) := List.drop_eq_getElem_cons hlt
    rw [hdrop] at hm2
    obtain ⟨I3, R3, s3, r3⟩ := hy i ds[i] _ _ _ I2 H2 x H3 hd s2 R2 hyld
    unfold lc2Loop at hm2
    obtain ⟨en3, q1, hm2⟩ := Option.bind_eq_some_iff.mp hm2
    refine g2 _ _ _ I3 H3 ds[i] x _ en3 R3 r3 q1 fun σ4 R4 w4 => ?_
    have hwp : wipe σ4 vs = wipe σ vs := by rw [w4 vs hix, wipe_self]
    refine ⟨hwp, ?_⟩
    obtain ⟨⟨b, en4⟩, q2, hm2⟩ := Option.bind_eq_some_iff.mp hm2
    refine t2 _ _ _ I3 H3 _ b en4 R4 q2 fun I5 H5 R5 s5 => ?_
    cases b with
    | false =>
      simp only [Bool.false_eq_true, if_false] at hm2 ⊢
      have R6 := R5.wipe vs
      rw [hwp] at R6
      exact ⟨en4, I5, acc, av, R6, (s2.trans s3).trans s5, ra.mono (s3.trans s5), hm2⟩
    | true =>
      simp only [if_true] at hm2 ⊢
      obtain ⟨⟨ds1, en5⟩, q3, hm2⟩ := Option.bind_eq_some_iff.mp hm2
      obtain ⟨⟨acc1, en6⟩, q4, hm2⟩ := Option.bind_eq_some_iff.mp hm2
      dsimp only at q4 hm2
      have R5' : SR Z1.K Z1.cl (g.beside L (.lst av)) en4 σ4 I5 H5 := by rw [hZ, hcl]; exact R5
      refine i21 _ _ _ I5 H5 _ ds1 en5 R5' q3 fun J1 I6 H6 R6' s6 wd1 => ?_
      obtain ⟨Gd1, Y1, hw1, hgd1, hy1⟩ := wd1
      have R6 : SR Z.K Z.cl (g.beside L (.lst av)) en5 σ4 I6 H6 := by rw [← hZ, ← hcl]; exact R6'
      refine walk_go (H0 := H6) (Qd := fun H => ∃ env' I' acc av, SR Z.K Z.cl (g.beside L (.lst av)) (wipeE env' vs) (wipe σ vs) I' H ∧ Same I1 I' ∧ Reps Z.K Z.cl I' acc av ∧ lc2Loop gf mt mi1 gf1 mt1 me vs vs1 (ds.drop (i + 1)) acc env' = some (fin, enf))
        (B := fun Nx1 x H' => gt1 x (wipe σ4 vs1) H' fun σ3 H5 => wipe σ3 vs1 = wipe σ4 vs1 ∧ tt1 σ3 H5 fun b H6 =>
          if b = true then te σ3 H6 fun y H7 => ∃ acc, H7 L = some (.lst acc) ∧ acc.length < sizeLine ∧ Nx1 (upd H7 L (.lst (acc ++ [y]))) else Nx1 H6) hw1
        (fun j H' => ∃ env' I' acc' av', SR Z.K Z.cl (g.beside L (.lst av')) (wipeE env' vs1) (wipe σ4 vs1) I' H' ∧ Same I6 I' ∧ Reps Z.K Z.cl I' acc' av' ∧ lcLoop gf1 mt1 me vs1 (ds1.drop j) acc' env' = some (acc1, en6))
        ⟨en5, I6, acc, av, R6.wipe vs1, Same.refl _, ra.mono ((s3.trans s5).trans s6), q4⟩ (fun j H' _ ⟨env', I', acc', av', R', s', _⟩ => hgd1 I' H' s' R'.sub) ?_ ?_
      · rintro j y H7 H8 hlt1 ⟨env7, I7, acc7, av7, R7, s7, ra7, hm7⟩ hyld1
        have hd1 : ds1[j]? = some ds1[j] := List.getElem?_eq_getElem hlt1
        have hdrop1 : ds1.drop j = ds1[j] :: ds1.drop (j + 1) := List.drop_eq_getElem_cons hlt1
        rw [hdrop1] at hm7
        have R7' : SR Z1.K Z1.cl (g.beside L (.lst av7)) (wipeE env7 vs1) (wipe σ4 vs1) I7 H7 := by rw [hZ, hcl]; exact R7
        obtain ⟨I8, R8', s8, r8'⟩ := hy1 j ds1[j] _ _ _ I7 H7 y H8 hd1 s7 R7' hyld1
        have R8 : SR Z.K Z.cl (g.beside L (.lst av7)) (wipeE env7 vs1) (wipe σ4 vs1) I8 H8 := by rw [← hZ, ← hcl]; exact R8'
        have r8 : Rep Z.K Z.cl I8 ds1[j] y := by rw [← hZ, ← hcl]; exact r8'
        unfold lcLoop at hm7
        obtain ⟨en8, q8, hm7⟩ := Option.bind_eq_some_iff.mp hm7
        refine g21 _ _ _ I8 H8 ds1[j] y _ en8 R8 r8 q8 fun σ9 R9 w9 => ?_
        have hwp1 : wipe σ9 vs1 = wipe σ4 vs1 := by rw [w9 vs1 hix1, wipe_self]
        refine ⟨hwp1, ?_⟩
        obtain ⟨⟨b1, en9⟩, q9, hm7⟩ := Option.bind_eq_some_iff.mp hm7
        refine t21 _ _ _ I8 H8 _ b1 en9 R9 q9 fun I10 H10 R10 s10 => ?_
        cases b1 with
        | false =>
          simp only [Bool.false_eq_true, if_false] at hm7 ⊢
          have R11 := R10.wipe vs1
          rw [hwp1] at R11
          exact ⟨en9, I10, acc7, av7, R11, (s7.trans s8).trans s10, ra7.mono (s8.trans s10), hm7⟩
        | true =>
          simp only [if_true] at hm7 ⊢
          obtain ⟨⟨z, en10⟩, q10, hm7⟩ := Option.bind_eq_some_iff.mp hm7
          split at hm7
          · rename_i hlen
            refine e2 _ _ _ I10 H10 _ z en10 R10 q10 fun v I11 H11 R11 s11 rv => ?_
            have ra11 := ra7.mono ((s8.trans s10).trans s11)
            refine ⟨av7, (R11.ex L _ List.mem_cons_self).1, by rw [← ra7.length]; exact hlen, en10, I11, acc7 ++ [z], av7 ++ [v], ?_, ((s7.trans s8).trans s10).trans s11, ra11.append (.cons rv .nil), hm7⟩
            have R12 := (R11.exSet (o' := .lst (av7 ++ [v])) hX).wipe vs1
            rw [hwp1] at R12
            exact R12
          · cases hm7
      · rintro H7 ⟨env7, I7, acc7, av7, R7, s7, ra7, hm7⟩
        rw [List.drop_length] at hm7
        cases hm7
        have R8 := R7.wipe vs
        rw [wipe_wipe (wipe_self σ4 vs1) hv, hwp] at R8
        exact ⟨wipeE en6 vs1, I7, acc1, av7, R8, (((s2.trans s3).trans s5).trans s6).trans s7, ra7, hm2⟩
  · rintro H2 ⟨env2, I2, acc, av, R2, s2, ra, hm2⟩
    rw [List.drop_length] at hm2
    cases hm2
    have R3 := SR.back R1 vs hnd hcalm R2 s2
    obtain ⟨R4, n4⟩ := R3.take hX
    exact k L _ I2 H2 R4 (s1.trans s2) n4 (.lst ra)
theorem ef_lc2 {elt tg iter tg1 iter1 : Expr} {ifs ifs1 : List Expr} {scope : Scope} {own : List (Str × Nat)} {vs1 : List Nat} {pos : Pos} {mi mi1 : MI} {ix ix1 : List Nat} {gf gf1 : D → En → Option En} {mt mt1 : MT} {me : ME} (hi : IV Z tg iter mi) (ok : BlkOk Z.N Z.sc scope own) (hg : GV (ZB Z scope) tg ix gf) (ht : CV (ZB Z scope) ifs mt)
    (hi1 : IV (ZB Z scope) tg1 iter1 mi1) (hg1 : GV (ZB Z scope) tg1 ix1 gf1) (ht1 : CV (ZB Z scope) ifs1 mt1)
    (he : EV (ZB Z scope) elt me) (hnd : (own.map (·.2)).Nodup := by decide) (hix : ∀ i ∈ ix, i ∈ own.map (·.2) := by decide) (hix1 : ∀ i ∈ ix1, i ∈ vs1 := by decide) (hv : ∀ i ∈ vs1, i ∈ own.map (·.2) := by decide) (hs : ∀ env x, foldedSetIterable iter env x = pure x := by intro _ _; rfl) (hs1 : ∀ env x, foldedSetIterable iter1 env x = pure x := by intro _ _; rfl) :
    EF Z (.ListComp elt [⟨tg, iter, ifs, 0⟩, ⟨tg1, iter1, ifs1, 0⟩] scope pos) (mLc2 (own.map (·.2)) vs1 mi gf mt mi1 gf1 mt1 me) := by
  obtain ⟨wi, i1, i2⟩ := hi
  obtain ⟨gt, g1, g2⟩ := hg
  obtain ⟨tt, t1, t2⟩ := ht
  obtain ⟨wi1, i11, i21⟩ := hi1
  obtain ⟨gt1, g11, g21⟩ := hg1
  obtain ⟨tt1, t11, t21⟩ := ht1
  obtain ⟨te, e1, e2⟩ := he
  exact ⟨_, fun X k => pe_lc2 k.calm k.nd (i1 X k) (by rw [k.N, k.sc]; exact ok) hv (fun s H C cl fp => g1 _ (inB k s H C cl fp)) (fun s H C cl fp => t1 _ (inB k s H C cl fp)) (fun s H C cl fp => i11 _ (inB k s H C cl fp)) (fun s H C cl fp => g11 _ (inB k s H C cl fp)) (fun s H C cl fp => t11 _ (inB k s H C cl fp)) (fun s H C cl fp => e1 _ (inB k s H C cl fp)) (hs _) (fun _ _ => hs1 _ _), lc2_sf (Z := Z) (Z1 := ZB Z scope) rfl rfl hnd hix hix1 hv i2 i21 g2 g21 t2 t21 e2⟩
theorem sv_asgLc2 {i : Nat} {y : Str} {py : Pos} {elt tg iter tg1 iter1 : Expr} {ifs ifs1 : List Expr} {scope : Scope} {own : List (Str × Nat)} {vs1 : List Nat} {pos spos : Pos} {mi mi1 : MI} {ix ix1 : List Nat} {gf gf1 : D → En → Option En} {mt mt1 : MT} {me : ME} (hN : Z.N[i]? = some y) (hy : Z.sc.names.lookup y = some .local)
    (hk : Z.sc.kind = .function) (hi : IV Z tg iter mi) (ok : BlkOk Z.N Z.sc scope own) (hg : GV (ZB Z scope) tg ix gf) (ht : CV (ZB Z scope) ifs mt)
    (hi1 : IV (ZB Z scope) tg1 iter1 mi1) (hg1 : GV (ZB Z scope) tg1 ix1 gf1) (ht1 : CV (ZB Z scope) ifs1 mt1) (he : EV (ZB Z scope) elt me) (hl : (py.line == pos.line) = true := by rfl) (ha : (scope.names.any fun (n, k) => n == y && (k == .local || k == .cell)) = false := by decide +kernel)
    (hnd : (own.map (·.2)).Nodup := by decide) (hix : ∀ i ∈ ix, i ∈ own.map (·.2) := by decide) (hix1 : ∀ i ∈ ix1, i ∈ vs1 := by decide) (hv : ∀ i ∈ vs1, i ∈ own.map (·.2) := by decide) (hs : ∀ env x, foldedSetIterable iter env x = pure x := by intro _ _; rfl) (hs1 : ∀ env x, foldedSetIterable iter1 env x = pure x := by intro _ _; rfl) :
    SV Z (.Assign [.Name y py] (.ListComp elt [⟨tg, iter, ifs, 0⟩, ⟨tg1, iter1, ifs1, 0⟩] scope pos) spos) (mAsgF i (mLc2 (own.map (·.2)) vs1 mi gf mt mi1 gf1 mt1 me)) := by
  obtain ⟨wi, i1, i2⟩ := hi
  obtain ⟨gt, g1, g2⟩ := hg
  obtain ⟨tt, t1, t2⟩ := ht
  obtain ⟨wi1, i11, i21⟩ := hi1
  obtain ⟨gt1, g11, g21⟩ := hg1
  obtain ⟨tt1, t11, t21⟩ := ht1
  obtain ⟨te, e1, e2⟩ := he
  refine ⟨_, fun X k => ps_setLc2 k.calm k.nd (by rw [k.N]; exact hN) (by rw [k.sc]; exact hy) (sw_true (by rw [k.sc]; exact hk) (by rw [k.sc]; exact hy) hl ha) (i1 X k) (by rw [k.N, k.sc]; exact ok) hv (fun s H C cl fp => g1 _ (inB k s H C cl fp)) (fun s H C cl fp => t1 _ (inB k s H C cl fp)) (fun s H C cl fp => i11 _ (inB k s H C cl fp)) (fun s H C cl fp => g11 _ (inB k s H C cl fp)) (fun s H C cl fp => t11 _ (inB k s H C cl fp)) (fun s H C cl fp => e1 _ (inB k s H C cl fp)) (hs _) (fun _ _ => hs1 _ _), fun g env σ I H D fl R hm k => ?_⟩
  unfold mAsgF at hm
  obtain ⟨r, q1, hm⟩ := Option.bind_eq_some_iff.mp hm
  split at hm
  · rename_i hi
    cases hm
    exact lc2_sf (Z := Z) (Z1 := ZB Z scope) rfl rfl hnd hix hix1 hv i2 i21 g2 g21 t2 t21 e2 g env σ I H _ r.1 r.2 R q1 fun a o I1 H1 R1 s1 n ro => k _ I1 H1 (R1.setOwn (by rw [← R1.len]; exact hi) n ro) s1
  · cases hm
end
end Q
namespace Q
open PySem PySem.Spec PyProof.Rows L2
/-! ## for p in zip(xs, ys): the pair keeps its name; whether the zip may use its own pair again is left open -/
section
variable {prog : Program} {w : World} {A : Around} {E : Value → Shared → Prop} {s : Shared}
theorem alive_any {a : Addr} {Q : Option Obj → Shared → Prop} (h : Q (s.heap.get? a) s) : wpAny (model prog w) A (loadIfAlive a) Q E s := fun _ _ _ => h
theorem own_dead {z u v T : Addr} {f : Bool} {Q : Bool → Shared → Prop} (hz : IsZipHeld s.heap z u v T f) (hT : s.heap.get? T = none) (h : Q true s) : wpAny (model prog w) A (Builtin.SmallTypes.ownedTupleIsFree (.ref z)) Q E s := by
  unfold Builtin.SmallTypes.ownedTupleIsFree
  refine wpAny_bind (wpAny_field hz rfl (x := rawInt T) rfl ?_)
  show wpAny _ _ (loadIfAlive (Int.toNat (T : Int)) >>= _) _ _ _
  rw [Int.toNat_natCast]
  refine wpAny_bind (alive_any ?_)
  rw [hT]
  exact wpAny_pure h
theorem dead_item {z u v T c d l m : Addr} {f : Bool} {i j : Nat} {xs ys : Array Value} {x y a b : Value} {Q : Value → Shared → Prop} (D : ZipApart z u v c d l m) (hz : IsZipHeld s.heap z u v T f) (hT : s.heap.get? T = none) (hu : IsPair s.heap u (.ref c) (.ref d)) (hv : IsPair s.heap v a b)
    (hc : s.heap.IsListIter c l i) (hd : s.heap.IsListIter d m j) (hl : s.heap.IsList l xs) (hm : s.heap.IsList m ys) (hx : xs[i]? = some x) (hy : ys[j]? = some y)
    (hQ : ∀ h', IsZipHeld h' z u v s.heap.objs.size false → IsPair h' v x y → h'.IsListIter c l (i + 1) → h'.IsListIter d m (j + 1) → IsPair h' s.heap.objs.size x y →
      (∀ e o, e ≠ z → e ≠ v → e ≠ c → e ≠ d → s.heap.get? e = some o → h'.get? e = some o) → Q (.ref s.heap.objs.size) { s with heap := h' }) :
    wpAny (model prog w) A (Builtin.«zip.__next__» ⟨[.ref z], []⟩) (fun r t => ∃ q, r = .done (.ret q) ∧ Q q t) E s := by
  show wpAny _ A (field (.ref z) 2 >>= _) _ E s
  refine wpAny_bind (wpAny_field hz rfl (x := Value.bool false) rfl ?_)
  show wpAny _ A (field (.ref z) 3 >>= _) _ E s
  refine wpAny_bind (wpAny_field hz rfl (x := Value.ref u) rfl (wpAny_bind (wpAny_seqItems hu rfl ?_)))
  show wpAny _ A (Builtin.SmallTypes.ownedTupleIsFree (.ref z) >>= _) _ E s
  refine wpAny_bind (own_dead hz hT ?_)
  simp only [if_true]
  refine wpAny_bind (wpAny_rule (wpAny_bind (wpAny_field hz rfl (x := Value.ref v) rfl (wpAny_bind (wpAny_setField_rec hz (by simp) fun g1 z1 k1 => wpAny_bind ?_)))))
  simp only [List.forIn_cons, List.forIn_nil, List.zipIdx_nil, List.zipIdx_cons]
  refine wpAny_bind (wpAny_bind (wpAny_onRaise ?_))
  show wpAny _ A (Builtin.SmallTypes.nextOf (.ref c) >>= _) _ _ _
  refine wpAny_bind (wpAny_nextOf_list_item (hc.extBut k1.extBut D.i1z) (hl.extBut k1.extBut D.l1z) hx fun g2 c2 k2 => wpAny_pure ?_)
  have v2 : IsPair g2 v a b := k2.extBut _ _ D.TOi1 (k1.extBut _ _ D.TOz hv)
  refine wpAny_bind (wpAny_seqItems v2 rfl (wpAny_bind (wpAny_updateSeq_pair v2 fun g3 v3 k3 => ?_)))
  replace v3 : IsPair g3 v x b := v3
  refine wpAny_bind (wpAny_letGo (wpAny_pure (wpAny_bind (wpAny_bind (wpAny_onRaise ?_)))))
  show wpAny _ A (Builtin.SmallTypes.nextOf (.ref d) >>= _) _ _ _
  have d3 : g3.IsListIter d m j := ((hd.extBut k1.extBut D.i2z).extBut k2.extBut D.i12.symm).extBut k3.extBut D.TOi2.symm
  have m3 : g3.IsList m ys := ((hm.extBut k1.extBut D.l2z).extBut k2.extBut D.l2i1).extBut k3.extBut D.l2TO
  refine wpAny_bind (wpAny_nextOf_list_item d3 m3 hy fun g4 d4 k4 => wpAny_pure ?_)
  have v4 : IsPair g4 v x b := k4.extBut _ _ D.TOi2 v3
  refine wpAny_bind (wpAny_seqItems v4 rfl (wpAny_bind (wpAny_updateSeq_pair v4 fun g5 v5 k5 => ?_)))
  replace v5 : IsPair g5 v x y := v5
  refine wpAny_bind (wpAny_letGo (wpAny_pure (wpAny_pure (wpAny_bind (wpAny_seqItems v5 rfl (wpAny_bind (wpAny_newTuple ?_)))))))
  have sz : g5.objs.size = s.heap.objs.size := by rw [k5.1, k4.1, k3.1, k2.1, k1.1]
  have z5 := k5.extBut _ _ D.TOz.symm (k4.extBut _ _ D.i2z.symm (k3.extBut _ _ D.TOz.symm (k2.extBut _ _ D.i1z.symm z1)))
  have kk : ∀ e o, e ≠ z → e ≠ v → e ≠ c → e ≠ d → s.heap.get? e = some o → g5.get? e = some o := fun e o n1 n2 n3 n4 h =>
    k5.extBut e o n2 (k4.extBut e o n4 (k3.extBut e o n2 (k2.extBut e o n3 (k1.extBut e o n1 h))))
  have c5 : g5.IsListIter c l (i + 1) := ((c2.extBut k3.extBut D.TOi1.symm).extBut k4.extBut D.i12).extBut k5.extBut D.TOi1.symm
  have d5 : g5.IsListIter d m (j + 1) := d4.extBut k5.extBut D.TOi2.symm
  have hzl : z < g5.objs.size := Heap.lt_size z5
  show wpAny _ A (Builtin.SmallTypes.ownedTupleHandOut (.ref z) (.ref g5.objs.size) >>= _) _ E _
  refine wpAny_bind ?_
  unfold Builtin.SmallTypes.ownedTupleHandOut
  have z6 := Heap.get?_push_of_some (Obj.mk (.type "tuple") none (.seq #[x, y]) #[]) z5
  refine wpAny_bind (wpAny_setField_rec (s := { s with heap := _ }) z6 (by simp) fun g7 z7 k7 => wpAny_setField_rec (s := { s with heap := _ }) z7 (by simp) fun g8 z8 k8 => ?_)
  have up : ∀ e o, e ≠ z → g5.get? e = some o → g8.get? e = some o := fun e o n h => k8.extBut e o n (k7.extBut e o n (Heap.get?_push_of_some _ h))
  have t8 : IsPair g8 g5.objs.size x y := k8.extBut _ _ (Nat.ne_of_gt hzl) (k7.extBut _ _ (Nat.ne_of_gt hzl) (Heap.get?_push_size _ rfl))
  replace z8 : IsZipHeld g8 z u v g5.objs.size false := z8
  rw [sz] at z8 t8
  refine wpAny_pure ⟨.ref g5.objs.size, rfl, ?_⟩
  rw [sz]
  exact hQ g8 z8 (up _ _ D.TOz v5) (c5.at fun o e => up _ o D.i1z e) (d5.at fun o e => up _ o D.i2z e) t8 fun e o n1 n2 n3 n4 h => up e o n1 (kk e o n1 n2 n3 n4 h)
theorem dead_end {z u v T c d l m : Addr} {f : Bool} {i j : Nat} {xs ys : Array Value} {a b : Value} {Q : Fin → Shared → Prop} (hh : A.handled = none) (D : ZipApart z u v c d l m) (hz : IsZipHeld s.heap z u v T f) (hT : s.heap.get? T = none) (hu : IsPair s.heap u (.ref c) (.ref d)) (hv : IsPair s.heap v a b)
    (hc : s.heap.IsListIter c l i) (hd : s.heap.IsListIter d m j) (hl : s.heap.IsList l xs) (hm : s.heap.IsList m ys) (hend : xs[i]? = none ∨ ys[j]? = none)
    (hE : ∀ h' e, (∀ b o, b ≠ z → b ≠ v → b ≠ c → b ≠ d → s.heap.get? b = some o → h'.get? b = some o) → (∃ o, h'.get? e = some o ∧ o.cls = .type "StopIteration") → E (.ref e) { s with heap := h' }) :
    wpAny (model prog w) A (Builtin.«zip.__next__» ⟨[.ref z], []⟩) Q E s := by
  show wpAny _ A (field (.ref z) 2 >>= _) _ E s
  refine wpAny_bind (wpAny_field hz rfl (x := Value.bool false) rfl ?_)
  show wpAny _ A (field (.ref z) 3 >>= _) _ E s
  refine wpAny_bind (wpAny_field hz rfl (x := Value.ref u) rfl (wpAny_bind (wpAny_seqItems hu rfl ?_)))
  show wpAny _ A (Builtin.SmallTypes.ownedTupleIsFree (.ref z) >>= _) _ E s
  refine wpAny_bind (own_dead hz hT ?_)
  simp only [if_true]
  refine wpAny_bind (wpAny_rule (wpAny_bind (wpAny_field hz rfl (x := Value.ref v) rfl (wpAny_bind (wpAny_setField_rec hz (by simp) fun g1 z1 k1 => wpAny_bind ?_)))))
  simp only [List.forIn_cons, List.forIn_nil, List.zipIdx_nil, List.zipIdx_cons]
  refine wpAny_bind (wpAny_bind (wpAny_onRaise ?_))
  show wpAny _ A (Builtin.SmallTypes.nextOf (.ref c) >>= _) _ _ _
  rcases ho : xs[i]? with _ | x
  · refine wpAny_bind (wpAny_nextOf_list_end hh (hc.extBut k1.extBut D.i1z) (hl.extBut k1.extBut D.l1z) ho fun g2 e k2 ⟨oe, h1, h2⟩ => ?_)
    have z2 := k2 _ _ D.i1z.symm z1
    have hne : e ≠ z := fun q => by subst q; rw [z2] at h1; cases h1; simp at h2
    exact wpAny_setField_rec z2 (by simp) fun g3 _ k3 => hE g3 e (fun b o n1 _ n3 _ q => k3.extBut _ _ n1 (k2 _ _ n3 (k1.extBut _ _ n1 q))) ⟨oe, k3.extBut _ _ hne h1, h2⟩
  · have hy : ys[j]? = none := hend.elim (fun q => by rw [ho] at q; cases q) id
    refine wpAny_bind (wpAny_nextOf_list_item (hc.extBut k1.extBut D.i1z) (hl.extBut k1.extBut D.l1z) ho fun g2 c2 k2 => wpAny_pure ?_)
    have v2 : IsPair g2 v a b := k2.extBut _ _ D.TOi1 (k1.extBut _ _ D.TOz hv)
    refine wpAny_bind (wpAny_seqItems v2 rfl (wpAny_bind (wpAny_updateSeq_pair v2 fun g3 v3 k3 => ?_)))
    refine wpAny_bind (wpAny_letGo (wpAny_pure (wpAny_bind (wpAny_bind (wpAny_onRaise ?_)))))
    show wpAny _ A (Builtin.SmallTypes.nextOf (.ref d) >>= _) _ _ _
    have d3 : g3.IsListIter d m j := ((hd.extBut k1.extBut D.i2z).extBut k2.extBut D.i12.symm).extBut k3.extBut D.TOi2.symm
    have m3 : g3.IsList m ys := ((hm.extBut k1.extBut D.l2z).extBut k2.extBut D.l2i1).extBut k3.extBut D.l2TO
    refine wpAny_bind (wpAny_nextOf_list_end hh d3 m3 hy fun g4 e k4 ⟨oe, h1, h2⟩ => ?_)
    have z4 := k4 _ _ D.i2z.symm (k3.extBut _ _ D.TOz.symm (k2.extBut _ _ D.i1z.symm z1))
    have hne : e ≠ z := fun q => by subst q; rw [z4] at h1; cases h1; simp at h2
    exact wpAny_setField_rec z4 (by simp) fun g5 _ k5 => hE g5 e (fun b o n1 n2 n3 n4 q => k5.extBut _ _ n1 (k4 _ _ n4 (k3.extBut _ _ n2 (k2.extBut _ _ n3 (k1.extBut _ _ n1 q))))) ⟨oe, k5.extBut _ _ hne h1, h2⟩
/-- a zip whose last pair has got a name, or that gave none yet -/
def ZipN (h : Heap) (z u v : Addr) : Prop := IsZip h z u v .none ∨ ∃ T f, IsZipHeld h z u v T f
theorem ZipN.iter {z u v : Addr} {Q : Value → Shared → Prop} (hz : ZipN s.heap z u v) (h : Q (.ref z) s) : wpAny (model prog w) A (pyIter (.ref z)) Q E s := by
  have hT : s.TypeIs (.ref z) "zip" := by
    rcases hz with hz | ⟨T, f, hz⟩
    · exact ⟨_, hz, rfl⟩
    · exact ⟨_, hz, rfl⟩
  refine wpAny_pyIter_slot hT F.slot_zip_iter (wpAny_call_entry F.slot_zip_iter hT F.entry_zip_iter ?_ (F.args_zip_iter_1 _))
  refine (show wpAny _ _ (ret (Value.ref z)) _ _ _ from wpAny_pure ?_)
  exact ⟨_, rfl, "zip", _, hT, F.slot_zip_next.lookup, h⟩
theorem ZipN.item {z u v c d l m : Addr} {i j : Nat} {xs ys : Array Value} {x y a b : Value} {Q : Option Value → Shared → Prop} (D : ZipApart z u v c d l m) (hz : ZipN s.heap z u v) (hu : IsPair s.heap u (.ref c) (.ref d)) (hv : IsPair s.heap v a b)
    (hc : s.heap.IsListIter c l i) (hd : s.heap.IsListIter d m j) (hl : s.heap.IsList l xs) (hm : s.heap.IsList m ys) (hx : xs[i]? = some x) (hy : ys[j]? = some y)
    (hQ : ∀ h', ZipN h' z u v → (∃ a b, IsPair h' v a b) → h'.IsListIter c l (i + 1) → h'.IsListIter d m (j + 1) → IsPair h' s.heap.objs.size x y →
      (∀ e o, e ≠ z → e ≠ v → e ≠ c → e ≠ d → s.heap.get? e = some o → h'.get? e = some o) → Q (some (.ref s.heap.objs.size)) { s with heap := h' }) :
    wpAny (model prog w) A (pyNext (.ref z)) Q E s := by
  rcases hz with hz | ⟨T, f, hz⟩
  · exact wpAny_pyNext_zip_item D hz hu hv hc hd hl hm hx hy fun h' a1 a2 a3 a4 a5 _ a7 => hQ h' (.inr ⟨_, false, a1⟩) ⟨_, _, a2⟩ a3 a4 a5 a7
  · cases hT : s.heap.get? T with
    | some oT => exact wpAny_pyNext_zip_item_held D hz hT hu hc hd hl hm hx hy fun h' a1 a2 a3 a4 _ a6 => hQ h' (.inr ⟨_, _, a1⟩) ⟨a, b, a6 v _ D.TOz D.TOi1 D.TOi2 hv⟩ a2 a3 a4 fun e o n1 _ n3 n4 q => a6 e o n1 n3 n4 q
    | none =>
      have hTy : s.TypeIs (.ref z) "zip" := ⟨_, hz, rfl⟩
      unfold pyNext
      exact wpAny_bind (wpAny_attempt (wpAny_callSpecial?_slot (name := Str.ofString "__next__") hTy F.slot_zip_next (wpAny_call_entry F.slot_zip_next hTy F.entry_zip_next
        (dead_item D hz hT hu hv hc hd hl hm hx hy fun h' a1 a2 a3 a4 a5 a6 => wpAny_pure (hQ h' (.inr ⟨_, _, a1⟩) ⟨_, _, a2⟩ a3 a4 a5 a6)) (F.args_zip_next_1 _))))
theorem ZipN.stop {z u v c d l m : Addr} {i j : Nat} {xs ys : Array Value} {a b : Value} {Q : Option Value → Shared → Prop} (hh : A.handled = none) (D : ZipApart z u v c d l m) (hz : ZipN s.heap z u v) (hu : IsPair s.heap u (.ref c) (.ref d)) (hv : IsPair s.heap v a b)
    (hc : s.heap.IsListIter c l i) (hd : s.heap.IsListIter d m j) (hl : s.heap.IsList l xs) (hm : s.heap.IsList m ys) (hend : xs[i]? = none ∨ ys[j]? = none)
    (hQ : ∀ h', (∀ e o, e ≠ z → e ≠ v → e ≠ c → e ≠ d → s.heap.get? e = some o → h'.get? e = some o) → Q none { s with heap := h' }) : wpAny (model prog w) A (pyNext (.ref z)) Q E s := by
  rcases hz with hz | ⟨T, f, hz⟩
  · exact wpAny_pyNext_zip_end hh D hz hu hv hc hd hl hm hend hQ
  · cases hT : s.heap.get? T with
    | some oT => exact wpAny_pyNext_zip_end_held hh D hz hT hu hc hd hl hm hend fun h' k => hQ h' fun e o n1 _ n3 n4 q => k e o n1 n3 n4 q
    | none =>
      have hTy : s.TypeIs (.ref z) "zip" := ⟨_, hz, rfl⟩
      unfold pyNext
      refine wpAny_bind (wpAny_attempt (wpAny_callSpecial?_slot (name := Str.ofString "__next__") hTy F.slot_zip_next (wpAny_call_entry F.slot_zip_next hTy F.entry_zip_next
        (dead_end hh D hz hT hu hv hc hd hl hm hend fun h' e hk ⟨o, ho, hc⟩ => ?_) (F.args_zip_next_1 _))))
      exact wpAny_bind (wpAny_isInstance (T := "StopIteration") (b := true) ⟨o, ho, hc⟩ isSubtype_stop (wpAny_pure (hQ _ hk)))
end
theorem turn_zipN {P : Program} {w : World} {K : PySem.W.Frag} {x : Str} {p : Pos} {a b z u v c d : Addr} (D : ZipApart z u v c d a b) :
    Turn P w K (.Name x p) (Itz K a b) [z, u, v, c, d] z (fun i h => ZipN h z u v ∧ IsPair h u (.ref c) (.ref d) ∧ (∃ x y, IsPair h v x y) ∧ h.IsListIter c a i ∧ h.IsListIter d b i) where
  mem := List.mem_cons_self
  obj := fun i h st e he => by
    obtain ⟨hz, hu, ⟨x, y, hv⟩, ⟨o1, e1, _, d1⟩, ⟨o2, e2, _, d2⟩⟩ := st
    simp only [List.mem_cons, List.not_mem_nil, or_false] at he
    rcases he with rfl | rfl | rfl | rfl | rfl
    · rcases hz with hz | ⟨T, f, hz⟩
      · exact ⟨_, hz, fun v q => nomatch q⟩
      · exact ⟨_, hz, fun v q => nomatch q⟩
    · exact ⟨_, hu, fun v q => nomatch q⟩
    · exact ⟨_, hv, fun v q => nomatch q⟩
    · exact ⟨o1, e1, fun v q => by rw [d1] at q; cases q⟩
    · exact ⟨o2, e2, fun v q => by rw [d2] at q; cases q⟩
  keep := fun i h h' st k => by
    obtain ⟨hz, hu, ⟨x, y, hv⟩, h1, h2⟩ := st
    refine ⟨?_, k u (by simp) _ hu, ⟨x, y, k v (by simp) _ hv⟩, h1.at fun o q => k c (by simp) o q, h2.at fun o q => k d (by simp) o q⟩
    rcases hz with hz | ⟨T, f, hz⟩
    · exact .inl (k z (by simp) _ hz)
    · exact .inr ⟨T, f, k z (by simp) _ hz⟩
  item := by
    intro X hP hw hK hc i pins s σ H E I hf st hg
    subst hP hw hK
    obtain ⟨hz, hu, ⟨x0, y0, hv⟩, h1, h2⟩ := st
    obtain ⟨xs, ys, x, y, hqx, hqy, hx, hy⟩ := hg
    obtain ⟨its, rv, p, _⟩ := I.list hqx
    obtain ⟨its2, rv2, p2, _⟩ := I.list hqy
    obtain ⟨r, hr, rr⟩ := rv.get hx
    obtain ⟨r2, hr2, rr2⟩ := rv2.get hy
    refine hz.item D hu hv h1 h2 p.isList p2.isList (x := r) (y := r2) (by simpa using hr) (by simpa using hr2) fun h' z' v' c' d' hT hk => ⟨_, rfl, wpAny_pure ?_⟩
    have new : ObjOk X.prog X.w (upd H s.heap.objs.size (.tup [x, y])) h' s.heap.objs.size (.tup [x, y]) := ⟨by show 2 ≤ sizeLine; decide, [r, r2], .cons rr (.cons rr2 .nil), ⟨_, hT, rfl, _, rfl⟩⟩
    have kk : ∀ e o, e ∉ [z, u, v, c, d] → s.heap.get? e = some o → h'.get? e = some o := fun e o hb q => hk e o (fun q' => hb (by simp [q'])) (fun q' => hb (by simp [q'])) (fun q' => hb (by simp [q'])) (fun q' => hb (by simp [q'])) q
    have I1 : Inv X pins σ (upd H s.heap.objs.size (.tup [x, y])) { s with heap := h' } := I.turnedNew (t' := s.toks) (ch := [z, u, v, c, d]) kk hf (Nat.le_refl _) new
    refine ⟨.ref s.heap.objs.size, _, I1, rfl, ⟨_, x, y, rfl, I.hok.fresh (Nat.le_refl _), rfl, fun l hl => by rw [I.list_inj hl hqx]; exact hx, fun l hl => by rw [I.list_inj hl hqy]; exact hy⟩, ⟨z', hk _ _ D.TIz D.TITO D.TIi1 D.TIi2 hu, v', c', d'⟩, fun e he => ?_⟩
    have hlt : e < s.heap.objs.size := by
      simp only [List.mem_cons, List.not_mem_nil, or_false] at he
      rcases he with rfl | rfl | rfl | rfl | rfl
      · rcases hz with hz | ⟨T, f, hz⟩
        · exact Heap.lt_size hz
        · exact Heap.lt_size hz
      · exact Heap.lt_size hu
      · exact Heap.lt_size hv
      · obtain ⟨_, e1, _⟩ := h1; exact Heap.lt_size e1
      · obtain ⟨_, e2, _⟩ := h2; exact Heap.lt_size e2
    rw [upd_ne (Nat.ne_of_lt hlt)]
    exact (hf e he).1
  done := by
    intro X hP hw hK hc i pins s σ H E I hf st hg
    subst hP hw hK
    obtain ⟨hz, hu, ⟨x0, y0, hv⟩, h1, h2⟩ := st
    obtain ⟨xs, ys, hqx, hqy, hend⟩ := hg
    obtain ⟨its, rv, p, _⟩ := I.list hqx
    obtain ⟨its2, rv2, p2, _⟩ := I.list hqy
    have l1 := rv.length
    have l2 := rv2.length
    refine hz.stop (I.ok.hd hc) D hu hv h1 h2 p.isList p2.isList (hend.imp (fun q => by simp; omega) fun q => by simp; omega) fun h' hk => ⟨rfl, I.turnedL (t' := s.toks) (ch := [z, u, v, c, d]) (fun e o hb q => ?_) hf⟩
    exact hk e o (fun q' => hb (by simp [q'])) (fun q' => hb (by simp [q'])) (fun q' => hb (by simp [q'])) (fun q' => hb (by simp [q'])) q
  self := fun A i s Q E st h => st.1.iter h
theorem pi_zipN {X : Cx} {e e2 : Expr} {ta : TA} {p pos tp : Pos} {x : Str} (hg : Gl X "zip") (hm : X.mg "zip" = none) (ha : PA X [e, e2] ta)
    (hs : starEach [e, e2] X.env = (false, eval e X.env) :: starEach [e2] X.env := by rfl) (hpl : (backTo pos (starEach [e2] X.env)).any (·.1) = false := by rfl) : PI X (.Name x tp) (.Call (.Name "zip" p) [e, e2] [] pos) (iZip X.K ta) := by
  refine ⟨fun pins s σ H R I h => Call_ (ld_blt I hg hm PyProof.Rows.boot_zip (PyProof.Rows.callWith_type1 (thn (ha.run pos pins s σ H _ I h) fun us s1 ⟨vs, H1, I1, r1, a, b, xs, ys, ex, hqx, hqy, q⟩ => ?_) hs hpl))⟩
  subst ex
  obtain ⟨u1, u2, rfl, k1, k2⟩ := vals2 r1
  cases k1
  cases k2
  obtain ⟨its, rv, p1, _⟩ := I1.list hqx
  obtain ⟨its2, rv2, p2, _⟩ := I1.list hqy
  refine call_zip_2 p1.isList p2.isList fun h' hz hTI hTO h1 h2 hsz hk => wpAny_pyIter_zip hz ?_
  refine ⟨s1.heap.objs.size + 4, [s1.heap.objs.size + 4, s1.heap.objs.size + 2, s1.heap.objs.size + 3, s1.heap.objs.size, s1.heap.objs.size + 1], _, _, H1, rfl, I1.kept (t' := s1.toks) hk, turn_zipN (PySem.W.ktu_apart s1.heap.objs.size a b p1.lt p2.lt), ⟨.inl hz, hTI, ⟨_, _, hTO⟩, h1, h2⟩, fun c hc => ?_, q⟩
  have hle : s1.heap.objs.size ≤ c := by
    simp only [List.mem_cons, List.not_mem_nil, or_false] at hc
    rcases hc with rfl | rfl | rfl | rfl | rfl
    · exact Nat.le_add_right _ _
    · exact Nat.le_add_right _ _
    · exact Nat.le_add_right _ _
    · exact Nat.le_refl _
    · exact Nat.le_add_right _ _
  exact I1.fpOk hle (I1.hok.fresh hle)
section
variable {Z : Zc}
theorem zip_si {t : TA} {m : En → Option (List D × En)} (h2 : SA Z t m) : SI Z (iZip Z.K t) (iZp m) := by
  intro g env σ I H R ds env' Rr hm k
  unfold iZp at hm
  cases hes : m env with
  | none => rw [hes] at hm; cases hm
  | some es =>
    rw [hes] at hm
    simp only [Option.bind_some] at hm
    obtain ⟨es, en⟩ := es
    refine h2 g env σ I H _ es en Rr hes fun vs I1 H1 R1 s1 rs => ?_
    dsimp only at hm
    split at hm
    · rename_i xs ys
      cases hm
      cases rs with
      | cons r1 r2 =>
        cases r2 with
        | cons r2 r3 =>
          cases r3
          obtain ⟨a, us, rfl, ha, ra⟩ := r1.lst_inv
          obtain ⟨b, ws, rfl, hb, rb⟩ := r2.lst_inv
          refine ⟨a, b, us, ws, rfl, SqL.of (R1.sub _ _ ha), SqL.of (R1.sub _ _ hb), k _ I1 H1 R1 s1 ?_⟩
          refine ⟨_, _, walk_zip (by rw [zipD_length, ra.length, rb.length]), fun I' H' s s' => ⟨SqL.of (s' _ _ (s _ _ ha)), SqL.of (s' _ _ (s _ _ hb))⟩, fun i d g env σ I' H x H' hd s R y => ?_⟩
          obtain ⟨T, x1, y1, rfl, hT, rfl, hx1, hy1⟩ := y
          obtain ⟨d1, d2, hd1, hd2, rfl⟩ := zipD_get _ _ _ _ hd
          obtain ⟨v, hv, rv⟩ := ra.get hd1
          obtain ⟨w, hw, rw'⟩ := rb.get hd2
          dsimp only at hx1 hy1
          rw [hv] at hx1; cases hx1
          rw [hw] at hy1; cases hy1
          obtain ⟨R2, s2, r2⟩ := R.tup (ds := [d1, d2]) hT (.cons (rv.mono s) (.cons (rw'.mono s) .nil))
          exact ⟨_, R2, s2, r2⟩
    · cases hm
theorem iv_zipN {a b : Expr} {m : En → Option (List D × En)} {x : Str} {p pos tp : Pos} (hg : GlZ Z "zip") (hm : Z.mg "zip" = none) (h : AE Z [a, b] m) (hs : ∀ env, starEach [a, b] env = (false, eval a env) :: starEach [b] env := by intro _; rfl) (hpl : ∀ env, (backTo pos (starEach [b] env)).any (·.1) = false := by intro _; rfl) : IV Z (.Name x tp) (.Call (.Name "zip" p) [a, b] [] pos) (iZp m) := by
  obtain ⟨t, h1, h2⟩ := h
  refine ⟨iZip Z.K t, fun X i => by have q := pi_zipN (X := X) (p := p) (pos := pos) (tp := tp) (x := x) (glOf i hg) (by rw [i.mg]; exact hm) (h1 X i) (hs _) (hpl _); rw [i.K] at q; exact q, ?_⟩
  exact zip_si h2
end
end Q
namespace Q
open PySem L2
section
variable {Z : Zc}
/-! ## more of texts: lower, index, str(n), f-strings -/
def fLower : Str → Option D := fun z => if z.length ≤ 5592405 then some (.str (Txt.lower z)) else none
theorem ev_lower {o : Expr} {apos pos : Pos} {mo : ME} (ho : EV Z o mo) (hbase : ∀ env, attributeBase o "lower" env (eval o env) = eval o env := by intro _; rfl) (hline : (apos.endLine == pos.line) = true := by rfl) : EV Z (.Call (.Attribute o "lower" apos) [] [] pos) (mM0 fLower mo) :=
  ev_m0 F.slot_str_lower F.type_str_lower (fun X => mt_lower) (fun z d K cl I H Q h k => by
    unfold fLower at h
    split at h
    · rename_i hl; cases h; exact ⟨z, rfl, rfl, hl, k _ .str⟩
    · cases h) ho hbase hline
def fIndex : Str → Str → Option D := fun x y => match Builtin.Str.occurrences x y 0 x.length 1 with
  | i :: _ => some (.int (i : Nat))
  | [] => none
theorem ev_sindex {o e : Expr} {apos pos : Pos} {mo me : ME} (ho : EV Z o mo) (he : EV Z e me) (hs : ∀ env, starEach [e] env = [(false, eval e env)] := by intro _; rfl) (hbase : ∀ env, attributeBase o "index" env (eval o env) = eval o env := by intro _; rfl) (hline : (apos.endLine == pos.line) = true := by rfl) :
    EV Z (.Call (.Attribute o "index" apos) [e] [] pos) (mM1 fIndex mo me) :=
  ev_m1 F.slot_str_index F.type_str_index (fun X => mt_sindex) (fun x y d K cl I H Q h k => by
    unfold fIndex at h
    split at h
    · rename_i i r e; cases h; exact ⟨x, y, i, r, rfl, rfl, e, k _ .int⟩
    · cases h) ho he hs hbase hline
def dStr : List D → Option D
  | [.int i] => if i.natAbs.log2 < 1920 then some (.str (Str.ofString (toString i))) else none
  | _ => none
def rStrE : List V → Hp → VK → Prop := fun xs H Q => ∃ i : Int, xs = [.int i] ∧ i.natAbs.log2 < 1920 ∧ Q (.str (Str.ofString (toString i))) H
theorem ok_str : RuleC Z rStrE dStr := by
  intro I H xs z vs Q s rs h k
  unfold dStr at h
  split at h
  · split at h
    · rename_i hl; cases h; obtain ⟨v, rfl, r⟩ := rs.one; cases r.int; exact ⟨_, rfl, hl, k _ .str⟩
    · cases h
  · cases h
theorem cr_str {X : Cx} : CallR X (.type "str") rStrE := call_str_int
/-! f-strings -/
def mFmt (a : ME) : ME := fun env => (a env).bind fun p => match p.1 with
  | .str y => if y.length ≤ sizeLine then some (.str y, p.2) else none
  | .int i => if i.natAbs.log2 < 1920 then some (.str (Str.ofString (toString i)), p.2) else none
  | _ => none
theorem ev_fmt {e : Expr} {pos : Pos} {m : ME} (h : EV Z e m) : EV Z (.FormattedValue e (-1) none pos) (mFmt m) := by
  obtain ⟨t, h1, h2⟩ := h
  refine ⟨_, fun X i => pe_fmt (h1 X i), fun g env σ I H Q d env' R hm k => ?_⟩
  unfold mFmt at hm
  obtain ⟨⟨x, en⟩, e1, hm⟩ := Option.bind_eq_some_iff.mp hm
  refine h2 g env σ I H _ x en R e1 fun v I1 H1 R1 s1 rv => ?_
  dsimp only at hm
  split at hm
  · split at hm
    · rename_i y hl
      cases hm
      cases rv.str_inv
      exact .inl ⟨_, rfl, hl, k _ I1 H1 R1 s1 .str⟩
    · cases hm
  · split at hm
    · rename_i i hl
      cases hm
      cases rv.int_inv
      exact .inr ⟨_, rfl, hl, k _ I1 H1 R1 s1 .str⟩
    · cases hm
  · cases hm
def mJs : List ME → Str → En → Option (Str × En)
  | [], acc, env => some (acc, env)
  | m :: ms, acc, env => (m env).bind fun p => match p.1 with
    | .str y => if (acc ++ y).length ≤ sizeLine then mJs ms (acc ++ y) p.2 else none
    | _ => none
/-- the parts of an f-string -/
inductive JV (Z : Zc) : List Expr → List ME → Prop where
  | nil : JV Z [] []
  | cons {e : Expr} {m : ME} {es : List Expr} {ms : List ME} (h : EV Z e m) (r : JV Z es ms) : JV Z (e :: es) (m :: ms)
theorem jv_run {es : List Expr} {ms : List ME} (h : JV Z es ms) : ∃ ts, (∀ X, InF Z X → PJ X es ts) ∧ ∀ (acc : Str) (g : G) (env : En) (σ : St) (I H : Hp) (Q : Str → Hp → Prop) (out : Str) (env' : En), SR Z.K Z.cl g env σ I H → mJs ms acc env = some (out, env') →
    (∀ I' H', SR Z.K Z.cl g env' σ I' H' → Same I I' → Q out H') → tJs ts acc σ H Q := by
  induction h with
  | nil =>
    refine ⟨[], fun X i => .nil, fun acc g env σ I H Q out env' R hm k => ?_⟩
    cases hm
    exact k I H R (Same.refl _)
  | @cons e m es ms h r ih =>
    obtain ⟨t, h1, h2⟩ := h
    obtain ⟨ts, i1, i2⟩ := ih
    refine ⟨t :: ts, fun X i => .cons (h1 X i) (i1 X i), fun acc g env σ I H Q out env' R hm k => ?_⟩
    unfold mJs at hm
    obtain ⟨⟨x, en⟩, e1, hm⟩ := Option.bind_eq_some_iff.mp hm
    refine h2 g env σ I H _ x en R e1 fun v I1 H1 R1 s1 rv => ?_
    dsimp only at hm
    split at hm
    · split at hm
      · rename_i y hl
        cases rv.str_inv
        exact ⟨_, rfl, hl, i2 _ g en σ I1 H1 Q out env' R1 hm fun I2 H2 R2 s2 => k I2 H2 R2 (s1.trans s2)⟩
      · cases hm
    · cases hm
def mJoined (ms : List ME) : ME := fun env => (mJs ms Str.empty env).map fun p => (.str p.1, p.2)
theorem ev_joined {v1 v2 : Expr} {rest : List Expr} {ms : List ME} {pos : Pos} (h : JV Z (v1 :: v2 :: rest) ms) : EV Z (.JoinedStr (v1 :: v2 :: rest) pos) (mJoined ms) := by
  obtain ⟨ts, h1, h2⟩ := jv_run h
  refine ⟨_, fun X i => pe_joined (h1 X i), fun g env σ I H Q d env' R hm k => ?_⟩
  unfold mJoined at hm
  obtain ⟨⟨out, en⟩, e1, hm⟩ := Option.map_eq_some_iff.mp hm
  cases hm
  exact h2 Str.empty g env σ I H _ out en R e1 fun I1 H1 R1 s1 => k _ I1 H1 R1 s1 .str
theorem ev_joined1 {e : Expr} {m : ME} {pos : Pos} (h : EV Z e m) : EV Z (.JoinedStr [e] pos) m := by
  obtain ⟨t, h1, h2⟩ := h
  exact ⟨t, fun X i => pe_joined1 (h1 X i), h2⟩
end
end Q
namespace Q
open PySem PySem.Spec PyProof.Rows L2
/-! ## for at, sign in enumerate(text) -/
def IteS (x : Str) : It :=
  ⟨fun i _ => i < x.cps.size, fun i H v H' => ∃ T c, v = .ref T ∧ H T = none ∧ H' = upd H T (.tup [.int (i : Nat), .str ⟨#[c]⟩]) ∧ x.cps[i]? = some c, fun i _ => x.cps.size ≤ i⟩
theorem draws_str {P : Program} {w : World} {A : Around} (hh : A.handled = none) (it : Addr) (x : Str) (t : Tok) (ty : String) (hty : ty = "str_ascii_iterator" ∨ ty = "str_iterator") :
    Draws P w A it [it] x.cps.size (fun i v => ∃ c u, x.cps[i]? = some c ∧ v = .str ⟨#[c]⟩ u) (fun i h => h.IsStrIter it ty x t i) := by
  rcases hty with e | e
  · subst e; exact Draws.strAscii hh it x t
  · subst e; exact Draws.strWide hh it x t
theorem turn_enumS {P : Program} {w : World} {K : PySem.W.Frag} {elts : List Expr} {kk : Nat} {tpos : Pos} (x : Str) (t : Tok) (ty : String) (hty : ty = "str_ascii_iterator" ∨ ty = "str_iterator") (e it : Addr) :
    Turn P w K (.Tuple elts kk tpos) (IteS x) [e, it] e (fun i h => (∃ old, IsEnum h e it ((i : Nat) : Int) old) ∧ h.IsStrIter it ty x t i ∧ e ≠ it) where
  mem := by simp
  obj := fun i h st b hb => by
    obtain ⟨⟨old, he⟩, ⟨o, ho, hc, hd⟩, _⟩ := st
    have e' : b = e ∨ b = it := by simpa using hb
    rcases e' with z | z
    · rw [z]; exact ⟨_, he, fun v q => nomatch q⟩
    · rw [z]; exact ⟨o, ho, fun v q => by rw [hd] at q; cases q⟩
  keep := fun i h h' st k => let ⟨⟨old, he⟩, ⟨o, ho, r⟩, hne⟩ := st; ⟨⟨old, k e (by simp) _ he⟩, ⟨o, k it (by simp) o ho, r⟩, hne⟩
  item := by
    intro X hP hw hK hc i pins s σ H E I hf st hg
    subst hP hw hK
    obtain ⟨⟨old, he⟩, hit, hne⟩ := st
    have hel : e < s.heap.objs.size := Heap.lt_size he
    have hil : it < s.heap.objs.size := by obtain ⟨_, q, _⟩ := hit; exact Heap.lt_size q
    refine wpAny_pyNext_enum_itemD (draws_str (A := X.A.in1) (I.ok.hd hc) it x t ty hty) he hit hg hne (by simpa using hne) fun v h' tk hv ho hit' hT hsz hk => ?_
    obtain ⟨c, u, hcx, rfl⟩ := hv
    refine ⟨_, rfl, wpAny_letOwnedTupleGo_enum (s := { s with heap := h', toks := tk + 1 }) ho fun h'' he' sb => ?_⟩
    have hT2 : h''.get? s.heap.objs.size = some { cls := .type "tuple", data := .seq #[.int i tk, .str ⟨#[c]⟩ u] } := (sb.2 _ (Nat.ne_of_gt hel)).trans hT
    have new : ObjOk X.prog X.w (upd H s.heap.objs.size (.tup [.int (i : Nat), .str ⟨#[c]⟩])) h'' s.heap.objs.size (.tup [.int (i : Nat), .str ⟨#[c]⟩]) :=
      ⟨by show 2 ≤ sizeLine; decide, [.int i tk, .str ⟨#[c]⟩ u], .cons ⟨_, rfl⟩ (.cons ⟨_, rfl⟩ .nil), ⟨_, hT2, rfl, _, rfl⟩⟩
    have I1 : Inv X pins σ (upd H s.heap.objs.size (.tup [.int (i : Nat), .str ⟨#[c]⟩])) { s with heap := h'', toks := tk + 1 } :=
      I.turnedNew (ch := [e, it]) (fun b ob hb q => (sb.2 b (fun z => hb (by simp [z]))).trans (hk b ob (fun z => hb (by simp [z])) (fun z => hb (by simp [z])) q)) hf (Nat.le_refl _) new
    refine ⟨.ref s.heap.objs.size, _, I1, rfl, ⟨_, c, rfl, I.hok.fresh (Nat.le_refl _), rfl, hcx⟩, ⟨⟨.str ⟨#[c]⟩ u, ?_⟩, ?_, hne⟩, fun b hb => ?_⟩
    · have e1 : ((i + 1 : Nat) : Int) = (i : Int) + 1 := by omega
      rw [e1]; exact he'
    · obtain ⟨o, q, r⟩ := hit'
      exact ⟨o, (sb.2 it (Ne.symm hne)).trans q, r⟩
    · have hb' : b < s.heap.objs.size := by
        have e' : b = e ∨ b = it := by simpa using hb
        rcases e' with z | z
        · rw [z]; exact hel
        · rw [z]; exact hil
      rw [upd_ne (Nat.ne_of_lt hb')]
      exact (hf b hb).1
  done := by
    intro X hP hw hK hc i pins s σ H E I hf st hg
    subst hP hw hK
    obtain ⟨⟨old, he⟩, hit, hne⟩ := st
    obtain ⟨f0, f1, f2, f3, f4, f5⟩ := hf it (by simp)
    have hend : s.heap.IsStrIter it ty x t x.cps.size ∨ x.cps.size < i := by
      rcases Nat.lt_or_ge x.cps.size i with q | q
      · exact .inr q
      · have : i = x.cps.size := Nat.le_antisymm q hg
        exact .inl (this ▸ hit)
    have hx : x.cps[i]? = none := Array.getElem?_eq_none hg
    have D : Draws X.prog X.w X.A.in1 it [it] i (fun _ _ => False) (fun j h => j = i ∧ h.IsStrIter it ty x t i) := by
      refine ⟨fun j h q => let ⟨o, ho, _⟩ := q.2; ⟨o, ho⟩, fun j h h' q k => let ⟨z, o, ho, r⟩ := q; ⟨z, o, k it (by simp) o ho, r⟩, fun j s Q E hj q _ => absurd q.1 (Nat.ne_of_lt hj), fun s Q E q hE => ?_⟩
      rcases hty with z | z
      · subst z; exact wpAny_nextOf_ascii_end (I.ok.hd hc) q.2 hx hE
      · subst z; exact wpAny_nextOf_wide_end (I.ok.hd hc) q.2 hx hE
    exact wpAny_pyNext_enum_endD D he ⟨rfl, hit⟩ fun h' eb => ⟨rfl, I.turned (t' := s.toks) (fun b o hb q => eb b o hb q) f0 f1 f3 f4 f5⟩
  self := fun A i s Q E st h => let ⟨⟨_, he⟩, _⟩ := st; wpAny_pyIter_enum he h
def iEnumS (ta : TA) : TI := fun σ H R => ta σ H fun vs H1 => ∃ x, vs = [.str x] ∧ R (IteS x) H1
theorem pi_enumS {X : Cx} {e : Expr} {ta : TA} {p pos tpos : Pos} {elts : List Expr} {kk : Nat} (hg : Gl X "enumerate") (hm : X.mg "enumerate" = none) (ha : PA X [e] ta) (hs : starEach [e] X.env = [(false, eval e X.env)] := by rfl) :
    PI X (.Tuple elts kk tpos) (.Call (.Name "enumerate" p) [e] [] pos) (iEnumS ta) := by
  refine ⟨fun pins s σ H R I h => ?_⟩
  refine Call_ (ld_blt I hg hm boot_enumerate (PyProof.Rows.callWith_type1 (thn (ha.run pos pins s σ H _ I h) fun us s1 ⟨vs, H1, I1, r1, q1⟩ => ?_) hs rfl))
  obtain ⟨x, ex, q⟩ := q1
  subst ex
  cases r1 with
  | cons r rr =>
    cases rr
    obtain ⟨t, rfl⟩ := r
    refine call_enumerate_str fun h' he hit hsz hk => wpAny_pyIter_enum he ?_
    have I2 : Inv X pins σ H1 { s1 with heap := h' } := I1.kept (t' := s1.toks) hk
    have hty : strIterType x = "str_ascii_iterator" ∨ strIterType x = "str_iterator" := by
      unfold strIterType
      split
      · exact .inl rfl
      · exact .inr rfl
    refine ⟨s1.heap.objs.size + 1, [s1.heap.objs.size + 1, s1.heap.objs.size], _, _, H1, rfl, I2, turn_enumS x t (strIterType x) hty (s1.heap.objs.size + 1) s1.heap.objs.size, ⟨⟨.none, he⟩, hit, Nat.succ_ne_self _⟩, fun b hb => ?_, q⟩
    have e' : b = s1.heap.objs.size + 1 ∨ b = s1.heap.objs.size := by simpa using hb
    have hle : s1.heap.objs.size ≤ b := by
      rcases e' with z | z
      · rw [z]; exact Nat.le_add_right _ _
      · rw [z]; exact Nat.le_refl _
    exact I1.fpOk hle (I1.hok.fresh hle)
theorem walk_enumS {x : Str} : Walk (IteS x) x.cps.size (fun _ => True) (YPair (fun i => some (.int (i : Nat))) (fun i => (x.cps[i]?).map fun c => .str ⟨#[c]⟩)) := by
  refine ⟨fun i _ hi q => hi, fun _ q => Nat.le_refl _, fun i H v H' _ q y => ?_⟩
  obtain ⟨T, c, h1, h2, h3, h4⟩ := y
  exact ⟨T, .int (i : Nat), .str ⟨#[c]⟩, h1, h2, h3, rfl, by dsimp only; rw [h4]; rfl⟩
section
variable {Z : Zc}
def iEnS (a : En → Option (List D × En)) : MI := fun env => (a env).bind fun p => match p.1 with
  | [.str z] => some (enumD 0 (signs z), p.2)
  | _ => none
theorem iv_enumS {a : Expr} {m : En → Option (List D × En)} {elts : List Expr} {kk : Nat} {p pos tpos : Pos} (hg : GlZ Z "enumerate") (hm : Z.mg "enumerate" = none) (h : AE Z [a] m) (hs : ∀ env, starEach [a] env = [(false, eval a env)] := by intro _; rfl) : IV Z (.Tuple elts kk tpos) (.Call (.Name "enumerate" p) [a] [] pos) (iEnS m) := by
  obtain ⟨t, h1, h2⟩ := h
  refine ⟨iEnumS t, fun X i => pi_enumS (X := X) (p := p) (pos := pos) (tpos := tpos) (elts := elts) (kk := kk) (glOf i hg) (by rw [i.mg]; exact hm) (h1 X i) (hs _), fun g env σ I H R ds env' Rr hm k => ?_⟩
  unfold iEnS at hm
  obtain ⟨⟨es, en⟩, hes, hm⟩ := Option.bind_eq_some_iff.mp hm
  refine h2 g env σ I H _ es en Rr hes fun vs I1 H1 R1 s1 rs => ?_
  dsimp only at hm
  split at hm
  · rename_i z
    cases hm
    cases rs with
    | cons r1 r2 =>
      cases r2
      cases r1.str_inv
      refine ⟨z, rfl, k _ I1 H1 R1 s1 ?_⟩
      refine ⟨_, _, by have q := walk_enumS (x := z); rw [show z.cps.size = (enumD 0 (signs z)).length by rw [enumD_length]; unfold signs; rw [List.length_map, Array.length_toList]] at q; exact q, fun I' H' s s' => trivial, fun i d g env σ I' H x H' hd s R y => ?_⟩
      obtain ⟨T, x1, y1, rfl, hT, rfl, hx1, hy1⟩ := y
      obtain ⟨d', hd', rfl⟩ := enumD_get _ _ _ _ hd
      dsimp only at hx1 hy1
      cases hx1
      obtain ⟨c, hc, rfl⟩ := Option.map_eq_some_iff.mp hy1
      unfold signs at hd'
      rw [List.getElem?_map, Array.getElem?_toList, hc] at hd'
      cases hd'
      obtain ⟨R2, s2, r2⟩ := R.tup (ds := [.int ((0 + i : Nat) : Int), .str ⟨#[c]⟩]) hT (.cons (by simp only [Nat.zero_add]; exact .int) (.cons .str .nil))
      exact ⟨_, R2, s2, r2⟩
  · cases hm
end
end Q
namespace Q
open PySem PySem.Spec PyProof.Rows L2 GenW
/-! ## Generator expressions: their frame, their turns -/
/-- the frame of a generator expression that was made in X's frame at s, woken within A -/
abbrev gxOf (X : Cx) (A : Around) (s : Shared) (H : Hp) (ge : Env) (fp : List Addr) (po : List (Addr × Obj)) : Cx :=
  { X with A := A, s_0 := s, H_0 := H, env := ge, outer := X.stack, stack := ge :: X.stack, ex := fp, fn := fun _ => false, pn := po, xe := fun _ _ => False }
abbrev geOf (X : Cx) (scope : Scope) (s : Shared) (code : Value) : Env := genEnv scope (cloFrom X.env.cells scope.names []) s.heap.objs.size code builtinsNs X.env
theorem gx_start {X : Cx} {pins : List (Addr × Obj)} {σ : L2.St} {H : Hp} {s z : Shared} {scope : Scope} {own : List (Str × Nat)} {fp : List Addr} {A : Around} {code : Value} {a : Addr} {o : Obj} {m : Str → Option Value}
    (J : Inv X pins σ H s) (ok : BlkOk X.N X.env.scope scope own) (nc : ∀ y ∈ scope.names, y.2 ≠ .cell) (hN : X.N.Nodup) (hf : ∀ b ∈ fp, FpOk X pins H b ∧ b < s.heap.objs.size)
    (hA : A.frames = some (geOf X scope s code :: X.stack)) (hh : A.handled = none)
    (hos : z.os = s.os) (hb : AllBare z.gens) (kp : ∀ b u, s.heap.get? b = some u → z.heap.get? b = some u) (hn : z.heap.Ns s.heap.objs.size m)
    (ha : z.heap.get? a = some o) (hl : s.heap.objs.size < a) (hd : ∀ v, o.data ≠ .cell v) :
    Inv (gxOf X A s H (geOf X scope s code) fp [(a, o)]) [] (wipe σ (own.map (·.2))) H z := by
  have free : ∀ y ∈ scope.names, y.2 = .free → ∃ c, X.env.cells.lookup y.1 = some c := fun y hy e =>
    (ok.free y hy e).elim (fun k => J.ok.has _ (.inl k)) fun k => J.ok.has _ (.inr k)
  have cm : ∀ {y c}, (geOf X scope s code).cells.lookup y = some c → X.env.cells.lookup y = some c ∧ c < s.heap.objs.size := fun {y c} e => by
    have e : (cloFrom X.env.cells scope.names []).lookup y = some c := e
    rcases cloFrom_mem (PySem.mem_of_lookup e) with q | ⟨q, rfl⟩
    · cases q
    · obtain ⟨c, hc⟩ := free _ q rfl
      rw [hc]
      obtain ⟨_, r⟩ := J.cell _ _ hc
      exact ⟨rfl, r.lt⟩
  have look : ∀ {y}, scope.names.lookup y = some .free → ∃ c, (geOf X scope s code).cells.lookup y = some c ∧ X.env.cells.lookup y = some c := fun {y} q => by
    obtain ⟨c, e⟩ := mem_lookup (cloFrom_has (cells := X.env.cells) (acc := []) (PySem.mem_of_lookup q))
    exact ⟨c, e, (cm e).1⟩
  have nofr : ∀ b, s.heap.objs.size ≤ b → b ∉ frs X.stack := fun b hb q => by
    rcases List.mem_cons.mp (J.stkSub b q) with e | q
    · have h1 := J.lt
      rw [← e] at h1
      exact Nat.lt_irrefl _ (Nat.lt_of_lt_of_le h1 hb)
    · exact J.nofs hb q
  have oke : (gxOf X A s H (geOf X scope s code) fp [(a, o)]).Ok := by
    refine ⟨J.ok.mod, ok.kind, J.ok.glob, rfl, Nat.le_refl _, fun y y' c e1 e2 => J.ok.inj y y' c (cm e1).1 (cm e2).1, fun y hy => ?_, (fun _ _ q => by cases q), fun _ => hh, hA, .inr ⟨rfl, rfl⟩, fun b hb => ⟨Nat.ne_of_lt (hf b hb).2, fun y c e q => ?_⟩, J.bs, Nat.le_trans J.ok.bsz J.sz,
      fun b u e q => ?_, fun b hb q => ?_, J.stack, J.stkFree⟩
    · rcases hy with hy | hy
      · exact absurd rfl (nc _ (PySem.mem_of_lookup (show scope.names.lookup y = some .cell from hy)))
      · obtain ⟨c, e, _⟩ := look (show scope.names.lookup y = some .free from hy)
        exact ⟨c, e⟩
    · exact (hf b hb).1.2.2.2.2.1 y c (cm e).1 q
    · rcases (hf b q).1.2.2.2.1 with r | r
      · exact J.ok.noex b u e r
      · exact absurd (Nat.lt_of_lt_of_le (Heap.lt_size e) (Nat.le_trans J.ok.bsz r)) (Nat.lt_irrefl _)
    · rcases List.mem_cons.mp (J.stkSub b q) with r | r
      · exact (hf b hb).1.2.1 r
      · exact (hf b hb).1.2.2.1 r
  refine ⟨oke, hos, hb, Un.kept kp, ⟨m, hn, fun i y v e1 e2 e3 => ?_⟩, fun y c e => ?_, J.hok.fresh (Nat.le_refl _), fun y c e => J.freeC y c (cm e).1, fun p hp => ?_, J.hok.kept kp, by rw [wipe_length]; exact J.len⟩
  · obtain ⟨e2, hne⟩ := wipe_some e2
    have own' : ∀ k, scope.names.lookup y = some k → k = .local ∨ k = .cell → False := fun k e hk => by
      rcases ok.own _ (PySem.mem_of_lookup e) hk with q | q
      · obtain ⟨p, hp, hpy⟩ := List.mem_map.mp q
        have e4 := ok.ix p hp
        rw [show p.1 = y from hpy] at e4
        exact hne (List.mem_map.mpr ⟨p, hp, nodup_ix hN e4 e1⟩)
      · exact q (List.mem_of_getElem? e1)
    have hfr : scope.names.lookup y = some .free := by
      rcases (show Vis scope y from e3) with q | q | q
      · exact (own' _ q (.inl rfl)).elim
      · exact (own' _ q (.inr rfl)).elim
      · exact q
    obtain ⟨c, h1, h2⟩ := look hfr
    obtain ⟨m0, _, hl0⟩ := J.loc
    have hvis : Vis X.env.scope y := (ok.free _ (PySem.mem_of_lookup hfr) rfl).elim (fun k => .inr (.inl k)) (fun k => .inr (.inr k))
    obtain ⟨w, r, q⟩ := hl0 i y v e1 e2 hvis
    refine ⟨w, r, .inr ⟨.inr hfr, c, h1, ?_⟩⟩
    rcases q with ⟨k, _⟩ | ⟨_, c', e', q⟩
    · have k : X.env.scope.names.lookup y = some .local := k
      rcases ok.free _ (PySem.mem_of_lookup hfr) rfl with k' | k' <;> rw [show X.env.scope.names.lookup y = _ from k'] at k <;> cases k
    · rw [h2] at e'; cases e'
      exact q.keeps kp
  · obtain ⟨w, q⟩ := J.cell y c (cm e).1
    exact ⟨w, q.keeps kp⟩
  · have hp : p = (a, o) := by simpa using hp
    subst hp
    exact ⟨ha, J.hok.fresh (Nat.le_of_lt hl), Nat.ne_of_gt hl, nofr a (Nat.le_of_lt hl), hd⟩
/-- what a sleeping generator's consumer may do: nothing but to its own objects at S -/
structure Woken (S : List Addr) (s z : Shared) : Prop where
  os : z.os = s.os
  bare : AllBare z.gens
  keep : ∀ b o, b ∉ S → s.heap.get? b = some o → z.heap.get? b = some o
  own : ∀ b ∈ S, ∃ o, z.heap.get? b = some o ∧ ∀ v, o.data ≠ .cell v
theorem inv_woken {X : Cx} {pins : List (Addr × Obj)} {σ : L2.St} {H : Hp} {s z : Shared} {S : List Addr} (J : Inv X pins σ H s) (hS : ∀ b ∈ S, FpOk X pins H b) (W : Woken S s z) : Inv X pins σ H z := by
  obtain ⟨w1, w2, w3, w4⟩ := W
  obtain ⟨h, g, d, t, o⟩ := z
  have e : o = s.os := w1
  subst e
  have nS : ∀ b u, H b = some u → b ∉ S := fun b u q hb => by rw [(hS b hb).1] at q; cases q
  have nL : X.env.locals ∉ S := fun hb => (hS _ hb).2.1 rfl
  refine J.step (g' := g) (t' := t) (d' := d) (ch := S) (fun b hb => ⟨(hS b hb).2.2.2.1, (hS b hb).2.1, (hS b hb).2.2.2.2.1, (hS b hb).2.2.2.2.2⟩) (fun b u _ _ n q _ => w3 b u n q) (fun b u _ _ n q _ => ⟨u.slots, w3 b u n q⟩) (fun _ _ _ _ n => n)
    (fun b u n q => ⟨u, w3 b u n q⟩) (fun _ _ q => q) (fun _ _ _ q => q) (fun b ps q => ⟨#[], by rw [q]; simp⟩) (fun m ⟨ob, es, ep, q, r⟩ => ⟨ob, es, ep, w3 _ ob nL q, r⟩) (fun b u q => ?_) w2
  refine (J.hok b u q).stay (fun c v hc y => w3 c v ?_ y) (fun _ y => y) fun _ _ y => y
  rcases hc with y | y
  · rw [y]; exact nS b u q
  · exact nS c _ y
/-- an item is handed out: y; t: what the consumer holds, told by Lk; the caller's state holds with H, and the generator goes on from there -/
def GxY {T : Type} (X : Cx) (pins : List (Addr × Obj)) (σ : L2.St) (Lk : T → Shared → Prop) (KK : T → V → Hp → (T → Hp → Prop) → Prop) (a : Addr) (g : Nat) (S : List Addr) : Protocol := fun _ s₀ v s₁ kap =>
  s₁.heap.IsGen a g ∧ (∀ b ∈ S, ∀ o, s₀.heap.get? b = some o → s₁.heap.get? b = some o) ∧ ∃ t y H Nx, Lk t s₀ ∧ RelV y v ∧ Inv X pins σ H s₁ ∧ (∀ b ∈ S, H b = none) ∧ KK t y H Nx ∧ (∀ t', Nx t' H → ∀ z, Woken S s₁ z → Lk t' z → kap (.send .none) z)
/-- no more items -/
def GxR {T : Type} (X : Cx) (pins : List (Addr × Obj)) (σ : L2.St) (Lk : T → Shared → Prop) (QE : T → Hp → Prop) (S : List Addr) : GenEnd := fun _ s₀ r s₁ =>
  ((r = .ok (.ret .none) ∨ r = .ok .next) ∧ (∃ t H, Lk t s₀ ∧ Inv X pins σ H s₁ ∧ (∀ b ∈ S, H b = none) ∧ (∀ b ∈ S, ∀ o, s₀.heap.get? b = some o → s₁.heap.get? b = some o) ∧ QE t H)) ∨ ∃ e, r = .error e ∧ False
/-- a turn: from the heap ahead of it, what is wanted -/
def GxT {T : Type} (g : TG) (tt : TT) (te : TE) (vs : List Nat) (σ : L2.St) (J : It) (KK : T → V → Hp → (T → Hp → Prop) → Prop) (QE : T → Hp → Prop) (W : Nat → Nat → T → Hp → Prop) : Prop :=
  ∀ i m t H, W i m t H → (J.stop i H ∧ QE t H) ∨ (J.go i H ∧ ∃ Nx : T → Hp → Prop, (∀ t' H', Nx t' H' → ∃ m', m' < m ∧ W (i + 1) m' t' H') ∧ ∀ x H', J.yld i H x H' → g x (wipe σ vs) H' fun σ2 H2 => wipe σ2 vs = wipe σ vs ∧ tt σ2 H2 fun b H3 =>
    if b = true then te σ2 H3 fun y H4 => KK t y H4 Nx else Nx t H3)
end Q
namespace Q
open PySem PySem.Spec PyProof.Rows L2 GenW
section
variable {X : Cx}
theorem fpOk_gx {A : Around} {s : Shared} {H H' : Hp} {ge : Env} {fp : List Addr} {po : List (Addr × Obj)} {σ : L2.St} {z : Shared} (J : Inv (gxOf X A s H ge fp po) [] σ H' z) (hp : ∀ b ∈ fp, ∀ p ∈ po, p.1 ≠ b) (hn : ∀ b ∈ fp, H' b = none) :
    ∀ b ∈ fp, FpOk (gxOf X A s H ge fp po) [] H' b := fun b hb =>
  ⟨hn b hb, (J.ok.exf b hb).1, J.ok.exfs b hb, .inl hb, (J.ok.exf b hb).2, fun p q => hp b hb p (by simpa using q)⟩
/-- the loop of a generator expression -/
theorem gx_loop {T' : Type} {Lk : T' → Shared → Prop} {pins : List (Addr × Obj)} {σ : L2.St} {s : Shared} {H : Hp} {elt tg iter : Expr} {ifs : List Expr} {scope : Scope} {own : List (Str × Nat)} {pos : Pos} {g : TG} {tt : TT} {te : TE} {A : Around} {ge : Env} {fp : List Addr} {a gn it : Addr} {o : Obj} {tn : Nat → Heap → Prop} {J : It}
    {KK : T' → V → Hp → (T' → Hp → Prop) → Prop} {QE : T' → Hp → Prop} {W : Nat → Nat → T' → Hp → Prop} {S : List Addr}
    (hc : X.calm = true) (T : Turn X.prog X.w X.K tg J fp it tn) (turn : GxT g tt te (own.map (·.2)) σ J KK QE W)
    {A' : Around} (hA' : A.over (.compLoop (.GeneratorExp elt [⟨tg, iter, ifs, 0⟩] scope pos) 0 (.ref it) .none ge) [] = A')
    (pg : PG (gxOf X A' s H ge fp [(a, o)]) tg g) (pt : PTs (gxOf X A' s H ge fp [(a, o)]) ifs tt) (pe : PE (gxOf X A' s H ge fp [(a, o)]) elt te)
    (hco : ge.scope.isCoroutine = false) (hgen : ∀ h : Heap, h.get? a = some o → h.IsGen a gn) (hpo : ∀ b ∈ fp, a ≠ b)
    (hS : ∀ b ∈ S, b ≠ ge.locals ∧ b ∉ frs X.stack ∧ s.heap.objs.size ≤ b ∧ (∀ x c, ge.cells.lookup x = some c → c ≠ b) ∧ a ≠ b ∧ b ∉ fp)
    (back : ∀ H' z, Inv (gxOf X A' s H ge fp [(a, o)]) [] (wipe σ (own.map (·.2))) H' z → Inv X pins σ H' z) :
    ∀ (m n i : Nat) (t : T') (s₀ z : Shared) (H' : Hp), m < n → Lk t s₀ → Inv (gxOf X A' s H ge fp [(a, o)]) [] (wipe σ (own.map (·.2))) H' z → tn i z.heap → (∀ b ∈ fp, H' b = none) → (∀ b ∈ S, H' b = none ∧ ∃ u, z.heap.get? b = some u ∧ ∀ v, u.data ≠ .cell v) →
      (∀ b ∈ S, ∀ u, s₀.heap.get? b = some u → z.heap.get? b = some u) → W i m t H' →
      Seg (model X.prog X.w) A (GxR X pins σ Lk QE S) (GxY X pins σ Lk KK a gn S) n s₀ (.compLoop (.GeneratorExp elt [⟨tg, iter, ifs, 0⟩] scope pos) 0 (.ref it) .none ge)
        ((model X.prog X.w).den (.compLoop (.GeneratorExp elt [⟨tg, iter, ifs, 0⟩] scope pos) 0 (.ref it) .none ge)) [] z := by
  intro m
  induction m using Nat.strongRecOn with
  | ind m ih =>
    intro n i t s₀ z H' hmn lk I st nf nS k0 w
    have po' : ∀ b ∈ fp, ∀ p ∈ [(a, o)], p.1 ≠ b := fun b hb p hp => by
      have hp : p = (a, o) := by simpa using hp
      rw [hp]; exact hpo b hb
    have sOk : ∀ {σ' : L2.St} {H1 : Hp} {pn : List (Addr × Obj)}, (∀ p ∈ pn, p.1 ∈ fp) → (∀ b ∈ S, H1 b = none) → ∀ b ∈ S, FpOk (gxOf X A' s H ge fp [(a, o)]) pn H1 b := fun {σ' H1 pn} hpn hn b hb => by
      obtain ⟨h1, h2, h3, h4, h5, h6⟩ := hS b hb
      refine ⟨hn b hb, h1, h2, .inr h3, h4, fun p hp => ?_⟩
      rcases List.mem_append.mp hp with hp | hp
      · have hp : p = (a, o) := by simpa using hp
        rw [hp]; exact h5
      · exact fun e => h6 (by rw [← e]; exact hpn p hp)
    show Seg _ A _ _ n s₀ _ ((compTurn (.GeneratorExp elt [⟨tg, iter, ifs, 0⟩] scope pos) 0 (.ref it) .none ge).onRaise (leaving ge)) [] z
    rw [compTurn_gen, Sem.onRaise_eq_wrap]
    refine seg_bind_wrap (wpAny_standAt (seg_bind_wrap ?_))
    rw [hA']
    rcases turn i m t H' w with ⟨stop, qe⟩ | ⟨go, Nx, hNx, step⟩
    · -- the end; what the consumer holds is pinned meanwhile
      have I2 := I.pinned (sOk (σ' := σ) (H1 := H') (pn := []) (fun p hp => by cases hp) fun b hb => (nS b hb).1) fun b hb => (nS b hb).2
      have f2 : ∀ b ∈ fp, FpOk (gxOf X A' s H ge fp [(a, o)]) ([] ++ pinsAt S z.heap) H' b := fun b hb => by
        obtain ⟨f0, f1, f3, f4, f5, f6⟩ := fpOk_gx I po' nf b hb
        refine ⟨f0, f1, f3, f4, f5, fun p hp => ?_⟩
        rcases List.mem_append.mp hp with hp | hp
        · exact po' b hb p hp
        · have hp : p ∈ pinsAt S z.heap := by simpa using hp
          exact fun e => (hS p.1 (of_pinsAt hp).1).2.2.2.2.2 (by rw [e]; exact hb)
      refine thnF (T.done (gxOf X A' s H ge fp [(a, o)]) rfl rfl rfl hc i _ z _ H' (fun _ _ => False) I2 f2 st stop) fun r z1 ⟨hr, I3⟩ => ?_
      subst hr
      refine seg_end (.ok .next) (.inl ⟨.inr rfl, t, H', lk, back H' z1 (I3.unpinned (pins := [])), fun b hb => (nS b hb).1, fun b hb u e => ?_, qe⟩)
      exact (I3.pin (b, u) (List.mem_append_right _ (List.mem_append_right _ (mem_pinsAt hb (k0 b hb u e))))).1
    · have I2 := I.pinned (sOk (σ' := σ) (H1 := H') (pn := []) (fun p hp => by cases hp) fun b hb => (nS b hb).1) fun b hb => (nS b hb).2
      have f2 : ∀ b ∈ fp, FpOk (gxOf X A' s H ge fp [(a, o)]) ([] ++ pinsAt S z.heap) H' b := fun b hb => by
        obtain ⟨f0, f1, f3, f4, f5, f6⟩ := fpOk_gx I po' nf b hb
        refine ⟨f0, f1, f3, f4, f5, fun p hp => ?_⟩
        rcases List.mem_append.mp hp with hp | hp
        · exact po' b hb p hp
        · have hp : p ∈ pinsAt S z.heap := by simpa using hp
          exact fun e => (hS p.1 (of_pinsAt hp).1).2.2.2.2.2 (by rw [e]; exact hb)
      refine thnF (T.item (gxOf X A' s H ge fp [(a, o)]) rfl rfl rfl hc i _ z _ H' (fun _ _ => False) I2 f2 st go) fun r z1 ⟨u, hr, h1⟩ => ?_
      subst hr
      refine seg_bind_wrap ?_
      rw [hA']
      refine thnF h1 fun _ z2 ⟨x, H2, I3, r3, y3, st3, n3⟩ => ?_
      -- the iterator's objects are pinned from here on, with the consumer's
      have kS : ∀ b ∈ S, ∀ v, z.heap.get? b = some v → z2.heap.get? b = some v ∧ H2 b = none := fun b hb v e =>
        let q := I3.pin (b, v) (List.mem_append_right _ (List.mem_append_right _ (mem_pinsAt hb e)))
        ⟨q.1, q.2.1⟩
      have f3 : ∀ b ∈ fp, FpOk (gxOf X A' s H ge fp [(a, o)]) ([] ++ pinsAt S z.heap) H2 b := fun b hb => by
        obtain ⟨_, f1, f3, f4, f5, f6⟩ := f2 b hb
        exact ⟨n3 b hb, f1, f3, f4, f5, f6⟩
      have I4 := I3.pinned f3 (T.obj _ _ st3)
      refine seg_bind_wrap ?_
      rw [hA']
      refine thnF (pg.run _ z2 _ H2 x u _ I4 r3 (step x H2 y3)) fun _ z3 ⟨σ3, H3, I5, hw5, q5⟩ => ?_
      refine seg_bind_wrap ?_
      rw [hA']
      refine thnF (pt.run _ z3 σ3 H3 _ I5 q5) fun b z4 ⟨H4, I6, q6⟩ => ?_
      have len3 : (wipe σ (own.map (·.2))).length = σ3.length := by rw [← hw5, wipe_length]
      -- a turn's end: what was pinned is as it was
      have fin : ∀ {z5 : Shared} {H5 : Hp}, Inv (gxOf X A' s H ge fp [(a, o)]) (([] ++ pinsAt S z.heap) ++ pinsAt fp z2.heap) σ3 H5 z5 →
          Inv (gxOf X A' s H ge fp [(a, o)]) [] (wipe σ (own.map (·.2))) H5 z5 ∧ tn (i + 1) z5.heap ∧ (∀ b ∈ fp, H5 b = none) ∧ (∀ b ∈ S, H5 b = none ∧ ∃ u, z5.heap.get? b = some u ∧ ∀ v, u.data ≠ .cell v) ∧ (∀ b ∈ S, ∀ v, z.heap.get? b = some v → z5.heap.get? b = some v) := fun {z5 H5} I7 => by
        have pf : ∀ b ∈ fp, ∀ v, z2.heap.get? b = some v → z5.heap.get? b = some v ∧ H5 b = none := fun b hb v e =>
          let q := I7.pin (b, v) (List.mem_append_right _ (List.mem_append_right _ (mem_pinsAt hb e)))
          ⟨q.1, q.2.1⟩
        have pS : ∀ b ∈ S, ∀ v, z.heap.get? b = some v → z5.heap.get? b = some v ∧ H5 b = none := fun b hb v e =>
          let q := I7.pin (b, v) (List.mem_append_right _ (List.mem_append_left _ (List.mem_append_right _ (mem_pinsAt hb e))))
          ⟨q.1, q.2.1⟩
        refine ⟨(I7.unpinned.unpinned (pins := [])).weak len3 (fun j v e => ?_), T.keep _ _ _ st3 fun b hb v e => (pf b hb v e).1, fun b hb => ?_, fun b hb => ?_, fun b hb v e => (pS b hb v e).1⟩
        · rw [← hw5] at e
          exact (wipe_some e).1
        · obtain ⟨v, e, _⟩ := T.obj _ _ st3 b hb
          exact (pf b hb v e).2
        · obtain ⟨_, v, e, d⟩ := nS b hb
          exact ⟨(pS b hb v e).2, v, (pS b hb v e).1, d⟩
      cases b with
      | false =>
        simp only [Bool.false_eq_true, if_false] at q6 ⊢
        obtain ⟨j1, j2, j3, j4, j5⟩ := fin I6
        obtain ⟨m', hm, w'⟩ := hNx t H4 q6
        exact seg_again rfl (ih m' hm n (i + 1) t s₀ z4 H4 (by omega) lk j1 j2 j3 j4 (fun b hb v e => j5 b hb v (k0 b hb v e)) w')
      | true =>
        simp only [if_true] at q6 ⊢
        have hy : ∀ v, yieldOut ge v = yieldValue v := fun v => by simp only [yieldOut, hco, Bool.false_eq_true, if_false]
        simp only [hy]
        rw [Sem.bind_eq_wrap', Sem.bind_eq_wrap', Sem.wrap_wrap, Sem.wrap_wrap]
        refine seg_wrap ?_
        rw [hA']
        refine thnF (pe.run _ z4 σ3 H4 _ I6 q6) fun v z5 ⟨y, H5, I7, r7, q7⟩ => ?_
        obtain ⟨j1, j2, j3, j4, j5⟩ := fin I7
        obtain ⟨n', rfl⟩ : ∃ n', n = n' + 1 := ⟨n - 1, by omega⟩
        refine seg_at (seg_yield rfl rfl rfl ⟨hgen _ (I7.pin (a, o) (List.mem_append_left _ List.mem_cons_self)).1, fun b hb v e => j5 b hb v (k0 b hb v e), t, y, H5, Nx, lk, r7, back H5 z5 j1, fun b hb => (j4 b hb).1, q7, fun t' nx z6 wk lk' => ?_⟩)
        obtain ⟨m', hm, w'⟩ := hNx t' H5 nx
        have sok := sOk (σ' := σ) (H1 := H5) (pn := []) (fun p hp => by cases hp) fun b hb => (j4 b hb).1
        refine seg_again rfl (ih m' hm n' (i + 1) t' z6 z6 H5 (by omega) lk' (inv_woken j1 sok wk) (T.keep _ _ _ j2 fun b hb v e => wk.keep b v (fun hbS => (hS b hbS).2.2.2.2.2 hb) e) j3 (fun b hb => ⟨(j4 b hb).1, wk.own b hb⟩) (fun _ _ _ e => e) w')
end
end Q
namespace Q
open PySem PySem.Spec PyProof.Rows L2 GenW
section
variable {T : Type} {Lk : T → Shared → Prop} {X : Cx} {pins : List (Addr × Obj)} {σ : L2.St} {KK : T → V → Hp → (T → Hp → Prop) → Prop} {QE : T → Hp → Prop} {a : Addr} {g : Nat}
/-- the generator stands ready for at most n items -/
def GxAt {T : Type} (X : Cx) (A : Around) (pins : List (Addr × Obj)) (σ : L2.St) (Lk : T → Shared → Prop) (KK : T → V → Hp → (T → Hp → Prop) → Prop) (QE : T → Hp → Prop) (a : Addr) (g : Nat) (S : List Addr) (n : Nat) (z : Shared) : Prop :=
  ∃ gs, z.gens[g]? = some gs ∧ gs.Goes (model X.prog X.w) A (GxR X pins σ Lk QE S) (GxY X pins σ Lk KK a g S) n (.send .none) (z.setGen g .running)
theorem woken_set {s : Shared} {g : Nat} {gs : GenState} (hb : AllBare s.gens) (h : gs.bare = true) : Woken [] s (s.setGen g gs) :=
  ⟨rfl, allBare_setGen hb h, fun _ _ _ e => e, fun b hb => by cases hb⟩
/-- next(g) within a consumer whose own objects lie at S, amid an iteration: t is what it holds -/
theorem gx_next {A : Around} {n : Nat} {z : Shared} {S : List Addr} {Q : Option Value → Shared → Prop} {E : Value → Shared → Prop} (hh : A.handled = none) (hd : A.depth < recursionLimit) (hl : z.heap.NoLimit) (hg : z.heap.IsGen a g) (h : GxAt X A.in1 pins σ Lk KK QE a g S n z)
    (hQ : ∀ v z1 t y H Nx, z1.heap.IsGen a g → Lk t (z.setGen g .running) → (∀ b ∈ S, ∀ o, z.heap.get? b = some o → z1.heap.get? b = some o) → RelV y v → Inv X pins σ H z1 → (∀ b ∈ S, H b = none) → KK t y H Nx →
      (∀ t', Nx t' H → ∃ m, ∀ z2, Woken S z1 z2 → z2.gens = z1.gens → Lk t' (z2.setGen g .running) → n = m + 1 ∧ GxAt X A.in1 pins σ Lk KK QE a g S m z2) → Q (some v) z1)
    (hN : ∀ z1 t H, Lk t (z.setGen g .running) → (∀ b ∈ S, ∀ o, z.heap.get? b = some o → z1.heap.get? b = some o) → Inv X pins σ H z1 → (∀ b ∈ S, H b = none) → QE t H → Q none z1) : wpAny (model X.prog X.w) A (pyNext (.ref a)) Q E z := by
  obtain ⟨gs, hgs, go⟩ := h
  have gl : g < z.gens.size := (Array.getElem?_eq_some_iff.mp hgs).1
  refine wpAny_gsz (n := g + 1) gl (next_genG (F := fun s₀ s₁ s₂ => (∃ t H, Lk t s₁ ∧ Inv X pins σ H s₂ ∧ (∀ b ∈ S, H b = none) ∧ (∀ b ∈ S, ∀ o, s₁.heap.get? b = some o → s₂.heap.get? b = some o) ∧ QE t H)) (Er := fun _ _ => False) hh hl hd hg hgs go (fun v s₁ gs' hbare hv => ?_) (fun s₁ hp h' hk => ?_) fun e s₁ he => he.elim)
  · intro hsz
    obtain ⟨h1, hS, t, y, H, Nx, hlk, h2, h3, h3s, h4, h5⟩ := hv
    have sz : g < s₁.gens.size := by
      have q : (s₁.setGen g gs').gens.size = s₁.gens.size := setGen_size _ _ _
      omega
    have I1 := inv_woken (S := []) h3 (fun b hb => by cases hb) (woken_set (gs := gs') (g := g) h3.bare hbare)
    refine hQ v _ t y H Nx h1 hlk hS h2 I1 h3s h4 fun t' nx => ?_
    cases n with
    | zero => exact ⟨0, fun z2 wk hgen lk => (h5 t' nx (z2.setGen g .running) ⟨wk.os, allBare_setGen wk.bare rfl, fun b o hb e => wk.keep b o hb e, wk.own⟩ lk).elim⟩
    | succ m =>
      refine ⟨m, fun z2 wk hgen lk => ⟨rfl, gs', by rw [hgen]; exact setGen_at sz, h5 t' nx (z2.setGen g .running) ⟨wk.os, allBare_setGen wk.bare rfl, fun b o hb e => wk.keep b o hb e, wk.own⟩ lk⟩⟩
  · intro _
    obtain ⟨t, H, hlk, h1, h1s, hS, h2⟩ := hp
    exact hN _ t H hlk (fun b hb o e => hk b o (hS b hb o e)) (inv_woken (S := []) h1 (fun b hb => by cases hb) ⟨rfl, allBare_setGen h1.bare rfl, fun b o _ e => hk b o e, fun b hb => by cases hb⟩) h1s h2
/-- what any (stop: true) or all (stop: false) wants of an item -/
def LkU : Unit → Shared → Prop := fun _ _ => True
def KBool (stop : Bool) (Q : VK) : Unit → V → Hp → (Unit → Hp → Prop) → Prop := fun _ y H Nx => ∃ c, y = .bl c ∧ (if c = stop then Q (.bl stop) H else Nx () H)
theorem woken_refl {s : Shared} (h : AllBare s.gens) : Woken [] s s := ⟨rfl, h, fun _ _ _ e => e, fun b hb => by cases hb⟩
end
section
variable {X : Cx} {pins : List (Addr × Obj)} {σ : L2.St} {a : Addr} {g : Nat}
theorem gx_any {Q : VK} {A : Around} (hh : A.handled = none) (hd : A.depth < recursionLimit) :
    ∀ (n : Nat) (H : Hp) (z : Shared), Inv X pins σ H z → z.heap.IsGen a g → GxAt X A.in1.in1 pins σ LkU (KBool true Q) (fun _ H => Q (.bl false) H) a g [] n z →
      codeAny (model X.prog X.w) A (.builtin "any.loop" ⟨[.ref a], []⟩) (fun r z' => ∃ b H', r = .ok (.ret (.bool b)) ∧ Inv X pins σ H' z' ∧ Q (.bl b) H') z := by
  intro n
  induction n using Nat.strongRecOn with
  | ind n ih =>
    intro H z I hg h
    refine codeAny_builtin F.entry_any_loop ?_
    rw [Around.under_plainId F.plain_any_loop _]
    show wpAny _ A.in1 (pyNext (.ref a) >>= _) _ _ z
    refine wpAny_bind (gx_next (A := A.in1) hh hd I.nolimit hg h (fun v z1 t y H1 Nx hg1 _ _ rv I1 _ hk nx => ?_) fun z1 t H1 _ _ I1 _ q => ?_)
    · obtain ⟨c, rfl, hk⟩ := hk
      cases rv
      refine wpAny_bind (wpAny_holding (wpAny_truthy_bool (wpAny_bind (wpAny_letGo ?_))))
      cases c with
      | true => exact wpAny_bind (wpAny_rule (wpAny_pure ⟨true, H1, rfl, I1, by simpa using hk⟩))
      | false =>
        obtain ⟨m, at1⟩ := nx () (by simpa using hk)
        obtain ⟨hm, at1⟩ := at1 z1 (woken_refl I1.bare) rfl trivial
        exact wpAny_pure ⟨plainId_quiet F.plain_any_loop _, ih m (by omega) H1 z1 I1 hg1 at1⟩
    · exact wpAny_bind (wpAny_rule (wpAny_pure ⟨false, H1, rfl, I1, q⟩))
theorem gx_all {Q : VK} {A : Around} (hh : A.handled = none) (hd : A.depth < recursionLimit) :
    ∀ (n : Nat) (H : Hp) (z : Shared), Inv X pins σ H z → z.heap.IsGen a g → GxAt X A.in1.in1 pins σ LkU (KBool false Q) (fun _ H => Q (.bl true) H) a g [] n z →
      codeAny (model X.prog X.w) A (.builtin "all.loop" ⟨[.ref a], []⟩) (fun r z' => ∃ b H', r = .ok (.ret (.bool b)) ∧ Inv X pins σ H' z' ∧ Q (.bl b) H') z := by
  intro n
  induction n using Nat.strongRecOn with
  | ind n ih =>
    intro H z I hg h
    refine codeAny_builtin F.entry_all_loop ?_
    rw [Around.under_plainId F.plain_all_loop _]
    show wpAny _ A.in1 (pyNext (.ref a) >>= _) _ _ z
    refine wpAny_bind (gx_next (A := A.in1) hh hd I.nolimit hg h (fun v z1 t y H1 Nx hg1 _ _ rv I1 _ hk nx => ?_) fun z1 t H1 _ _ I1 _ q => ?_)
    · obtain ⟨c, rfl, hk⟩ := hk
      cases rv
      refine wpAny_bind (wpAny_holding (wpAny_truthy_bool (wpAny_bind (wpAny_letGo ?_))))
      cases c with
      | false => exact wpAny_bind (wpAny_rule (wpAny_pure ⟨false, H1, rfl, I1, by simpa using hk⟩))
      | true =>
        obtain ⟨m, at1⟩ := nx () (by simpa using hk)
        obtain ⟨hm, at1⟩ := at1 z1 (woken_refl I1.bare) rfl trivial
        exact wpAny_pure ⟨plainId_quiet F.plain_all_loop _, ih m (by omega) H1 z1 I1 hg1 at1⟩
    · exact wpAny_bind (wpAny_rule (wpAny_pure ⟨true, H1, rfl, I1, q⟩))
end
end Q
namespace Q
open PySem PySem.Spec PyProof.Rows L2 GenW
section
variable {X : Cx} {pins : List (Addr × Obj)} {σ : L2.St} {H : Hp} {s : Shared}
theorem over_room {k : Nat} {A : Around} {e : Expr} {it : Value} {ge : Env} (hr : Room (k + 1) A) (he : ∃ elt gs sc p, e = .GeneratorExp elt gs sc p) : Room k (A.over (.compLoop e 0 it .none ge) []) := by
  obtain ⟨elt, gs, sc, p, rfl⟩ := he
  exact ⟨hr.hd, by have := hr.dp; show A.depth + 0 + 1 + 3 * k + 5 < _; omega, by have := hr.un; show A.units + 0 + 3 + 16 * k + 200 < _; omega⟩
theorem over_frames {A : Around} {e : Expr} {it : Value} {ge : Env} {l : List Env} (h : A.frames = some l) (he : ∃ elt gs sc p, e = .GeneratorExp elt gs sc p) : (A.over (.compLoop e 0 it .none ge) []).frames = some (ge :: l) := by
  obtain ⟨elt, gs, sc, p, rfl⟩ := he
  show pushEnvs [ge] (pushEnvs [] A.frames) = _
  rw [h]; rfl
theorem over_calm {A : Around} {e : Expr} {it : Value} {ge : Env} (h : Calmy A) : Calmy (A.over (.compLoop e 0 it .none ge) []) := by
  show pushGuards (Code.compLoop e 0 it .none ge).guards (pushGuards [] A.guards) = _
  rw [show (Code.compLoop e 0 it .none ge).guards = [] from rfl]
  exact h
/-- what a maker of a generator expression leaves: it stands ready -/
def GxMade {T : Type} (X : Cx) (k : Nat) (pins : List (Addr × Obj)) (σ : L2.St) (KK : T → V → Hp → (T → Hp → Prop) → Prop) (QE : T → Hp → Prop) (t0 : T) (u : Value) (z : Shared) : Prop :=
  ∃ (a : Addr) (g n : Nat) (c : Code) (H : Hp), u = .ref a ∧ z.heap.IsGen a g ∧ z.gens[g]? = some (.fresh c) ∧ Inv X pins σ H z ∧ a < z.heap.objs.size ∧
    ∀ (A : Around) (S : List Addr) (Lk : T → Shared → Prop) (z2 : Shared), Room (k + 1) A → A.frames = some X.stack → Calmy A → Woken [] z z2 → (∀ b ∈ S, z.heap.objs.size ≤ b ∧ ∃ u, z2.heap.get? b = some u ∧ ∀ v, u.data ≠ .cell v) → Lk t0 z2 →
      Seg (model X.prog X.w) A (GxR X pins σ Lk QE S) (GxY X pins σ Lk KK a g S) n z2 c ((model X.prog X.w).den c) [] z2
theorem gx_make {T' : Type} {t0 : T'} {c P : Addr} {k : Nat} {elt tg iter : Expr} {ifs : List Expr} {scope : Scope} {own : List (Str × Nat)} {pos : Pos} {wi : TI} {g : TG} {tt : TT} {te : TE} {KK : T' → V → Hp → (T' → Hp → Prop) → Prop} {QE : T' → Hp → Prop}
    (hc : X.calm = true) (hN : X.N.Nodup) (hr : X.A.depth < recursionLimit) (TB : GxR.TabB X.base X.mg c P) (hcode : X.env.code = .ref c) (hi : PI X tg iter wi) (ok : BlkOk X.N X.env.scope scope own) (nc : ∀ y ∈ scope.names, y.2 ≠ .cell)
    (dot : scope.names.lookup (".0" : Str) = some NameKind.local) (hco : scope.isCoroutine = false)
    (hg : ∀ (A : Around) (s : Shared) (H : Hp) (code : Value) (fp : List Addr) (po : List (Addr × Obj)), Room k A → Calmy A → PG (gxOf X A s H (geOf X scope s code) fp po) tg g)
    (ht : ∀ (A : Around) (s : Shared) (H : Hp) (code : Value) (fp : List Addr) (po : List (Addr × Obj)), Room k A → Calmy A → PTs (gxOf X A s H (geOf X scope s code) fp po) ifs tt)
    (he : ∀ (A : Around) (s : Shared) (H : Hp) (code : Value) (fp : List Addr) (po : List (Addr × Obj)), Room k A → Calmy A → PE (gxOf X A s H (geOf X scope s code) fp po) elt te)
    (hs : ∀ v, genFold iter X.env v = pure v) (I : Inv X pins σ H s)
    (h : wi σ H fun J H1 => GxR.TabG H1 P ∧ ∀ H2, GxR.Tabbed P H1 H2 → ∃ W, (∃ m, W 0 m t0 H2) ∧ GxT g tt te (own.map (·.2)) σ J KK QE W) :
    wpAny (model X.prog X.w) X.A (eval (.GeneratorExp elt [⟨tg, iter, ifs, 0⟩] scope pos) X.env) (GxMade X k pins σ KK QE t0) X.xe s := by
  have free : ∀ y ∈ scope.names, y.2 = .free → ∃ c, X.env.cells.lookup y.1 = some c := fun y hy e =>
    (ok.free y hy e).elim (fun k => I.ok.has _ (.inl k)) fun k => I.ok.has _ (.inr k)
  refine wpAny_GeneratorExp_make hco (closure_ok free) nc dot ok.kind hr ?_ hs
  refine thn (hi.run pins s σ H _ I h) fun xv s1 hx => thn hx fun itv s2 h2 => ?_
  obtain ⟨it, fp, tn, J, H2, e, I2, T, st2, f2, ⟨ps, hP, htr⟩, q⟩ := h2
  subst e
  refine ⟨I2.nolimit, ?_⟩
  have hPs : s2.heap.get? P = some { cls := .none, data := .fields ps } := I2.hok P _ hP
  have cd : PySem.W.CodeHd s2.heap c P := TB.code.keeps fun b u e => I2.bk b u e
  have sz2 : ∀ b ∈ fp, b < s2.heap.objs.size ∧ b ≠ P := fun b hb => by
    obtain ⟨o, e, _⟩ := T.obj _ _ st2 b hb
    exact ⟨Heap.lt_size e, fun z => by have := (f2 b hb).1; rw [z, hP] at this; cases this⟩
  -- behind the code object: the table may have grown
  have cont : ∀ (code : Value) (h3 : Heap) (tk : Nat) (more : Array Value), Heap.ExtBut P s2.heap h3 → s2.heap.objs.size ≤ h3.objs.size → h3.get? P = some { cls := .none, data := .fields (ps ++ more) } → TriplesOk (ps ++ more).toList →
      wpAny (model X.prog X.w) X.A (builtinsFor X.env.globals X.env.builtins) (fun bi s₄ => ∀ h', h'.Ns s₄.heap.objs.size (fun y => if y = ".0" then some (.ref it) else none) → Heap.SameBut s₄.heap.objs.size (s₄.heap.push { cls := .type "frame", data := .dict #[] }) h' →
          GxMade X k pins σ KK QE t0 (.ref h'.objs.size) { s₄ with
            gens := s₄.gens.push (.fresh (.compStart (.GeneratorExp elt [⟨tg, iter, ifs, 0⟩] scope pos) 0 (.ref it) .none (genEnv scope (cloFrom X.env.cells scope.names []) s₄.heap.objs.size code bi X.env))),
            toks := s₄.toks + 1 + 1 + 1,
            heap := h'.push { cls := .type "generator", data := .fields #[.int s₄.gens.size 0, .str "<genexpr>" (s₄.toks + 1), .str (X.env.qual ++ "<genexpr>") (s₄.toks + 1 + 1)] } }) X.xe { s2 with heap := h3, toks := tk } := by
    intro code h3 tk more hx hsz hP3 ht3
    obtain ⟨bm, ob, e1, e2, e3, e4, e5, e6, e7, e8⟩ := TB.bm
    refine wpAny_builtinsFor (m := X.mg) (by rw [I2.ok.glob]; exact (I2.mod.glob.keeps I2.bk).extBut hx TB.gP) e1 e2 (hx _ _ e4 (I2.bk _ _ e5)) e6 e7 e8 ?_
    -- the state with the table, then with the frame and the generator
    have I3 := GxR.inv_tab (more := more) (h' := h3) (g' := s2.gens) (d' := s2.drawn) (t' := tk) I2 hP (fun b u hb e => hx b u hb e) hP3 I2.bare
    generalize hs3 : ({ s2 with heap := h3, gens := s2.gens, drawn := s2.drawn, toks := tk } : Shared) = s3 at I3
    have e3h : s3.heap = h3 := by rw [← hs3]
    have st3 : tn 0 s3.heap := T.keep _ _ _ st2 fun b hb o e => by rw [e3h]; exact hx b o (sz2 b hb).2 e
    generalize hH3 : upd H2 P (.tbl (ps ++ more)) = H3 at I3
    have f3 : ∀ b ∈ fp, FpOk X pins H3 b ∧ b < s3.heap.objs.size := fun b hb => by
      refine ⟨⟨?_, (f2 b hb).2⟩, by rw [e3h]; exact Nat.lt_of_lt_of_le (sz2 b hb).1 hsz⟩
      rw [← hH3, upd_ne (sz2 b hb).2]
      exact (f2 b hb).1
    have hTab : GxR.Tabbed P H2 H3 := by
      rw [← hH3]
      exact ⟨⟨_, upd_same, ht3⟩, fun b hb => upd_ne hb⟩
    obtain ⟨W, ⟨m0, w0⟩, turn⟩ := q H3 hTab
    intro h' hn' hsb
    have keep' : ∀ b o, s3.heap.get? b = some o → h'.get? b = some o := fun b o e => hsb.extBut b o (Nat.ne_of_lt (Heap.lt_size e)) (Heap.get?_push_of_some _ e)
    have szh : h'.objs.size = s3.heap.objs.size + 1 := by rw [hsb.1, Heap.size_push]
    generalize hgo : ({ cls := .type "generator", data := .fields #[.int s3.gens.size 0, .str "<genexpr>" (s3.toks + 1), .str (X.env.qual ++ "<genexpr>") (s3.toks + 1 + 1)] } : Obj) = go
    have keep5 : ∀ b o, s3.heap.get? b = some o → (h'.push go).get? b = some o := fun b o e => Heap.get?_push_of_some _ (keep' b o e)
    have bare5 : AllBare (s3.gens.push (.fresh (.compStart (.GeneratorExp elt [⟨tg, iter, ifs, 0⟩] scope pos) 0 (.ref it) .none (genEnv scope (cloFrom X.env.cells scope.names []) s3.heap.objs.size code builtinsNs X.env)))) := I3.bare.push rfl
    generalize hz : ({ s3 with
            gens := s3.gens.push (.fresh (.compStart (.GeneratorExp elt [⟨tg, iter, ifs, 0⟩] scope pos) 0 (.ref it) .none (genEnv scope (cloFrom X.env.cells scope.names []) s3.heap.objs.size code builtinsNs X.env))),
            toks := s3.toks + 1 + 1 + 1, heap := h'.push go } : Shared) = z
    have zh : z.heap = h'.push go := by rw [← hz]
    have zo : z.os = s3.os := by rw [← hz]
    have zb : AllBare z.gens := by rw [← hz]; exact bare5
    have zgo : z.heap.get? h'.objs.size = some go := by rw [zh]; exact Heap.get?_push_size _ (by rw [← hgo]; rfl)
    have isg : ∀ hh : Heap, hh.get? h'.objs.size = some go → hh.IsGen h'.objs.size s3.gens.size := fun hh e => ⟨go, _, _, e, by rw [← hgo], by rw [← hgo], by rw [← hgo]⟩
    have I5 : Inv X pins σ H3 z := inv_woken (S := []) I3 (fun b hb => by cases hb) ⟨zo, zb, fun b o _ e => by rw [zh]; exact keep5 b o e, fun b hb => by cases hb⟩
    refine ⟨h'.objs.size, s3.gens.size, m0 + 1, _, H3, rfl, isg _ zgo, by rw [← hz]; exact Array.getElem?_push_size .., I5, by rw [zh, Heap.size_push]; exact Nat.lt_succ_self _, fun A S Lk z2 rA fA cA wk hS lk0 => ?_⟩
    have hgen : ∃ elt' gs sc p, (Expr.GeneratorExp elt [⟨tg, iter, ifs, 0⟩] scope pos) = .GeneratorExp elt' gs sc p := ⟨_, _, _, _, rfl⟩
    generalize hge : geOf X scope s3 code = ge
    generalize hA' : A.over (.compLoop (.GeneratorExp elt [⟨tg, iter, ifs, 0⟩] scope pos) 0 (.ref it) .none ge) [] = A'
    have rA' : Room k A' := by rw [← hA']; exact over_room rA hgen
    have fA' : A'.frames = some (ge :: X.stack) := by rw [← hA']; exact over_frames fA hgen
    have cA' : Calmy A' := by rw [← hA']; exact over_calm cA
    have kp2 : ∀ b u, s3.heap.get? b = some u → z2.heap.get? b = some u := fun b u e => wk.keep b u (by simp) (by rw [zh]; exact keep5 b u e)
    have I6 : Inv (gxOf X A' s3 H3 ge fp [(h'.objs.size, go)]) [] (wipe σ (own.map (·.2))) H3 z2 := by
      rw [← hge]
      refine gx_start (m := fun y => if y = ".0" then some (.ref it) else none) I3 ok nc hN f3 (by rw [hge]; exact fA') rA'.hd (wk.os.trans zo) wk.bare kp2 ?_ (wk.keep _ _ (by simp) zgo) (by rw [szh]; exact Nat.lt_succ_self _) (fun v e => by rw [← hgo] at e; cases e)
      have n5 : z.heap.Ns s3.heap.objs.size (fun y => if y = ".0" then some (.ref it) else none) := by rw [zh]; exact hn'.push _
      exact n5.at' fun o e => wk.keep _ o (by simp) e
    have loc : ge.locals = s3.heap.objs.size := by rw [← hge]; rfl
    have zsz : z.heap.objs.size = s3.heap.objs.size + 2 := by rw [zh, Heap.size_push, szh]
    have hS' : ∀ b ∈ S, b ≠ ge.locals ∧ b ∉ frs X.stack ∧ s3.heap.objs.size ≤ b ∧ (∀ x c, ge.cells.lookup x = some c → c ≠ b) ∧ h'.objs.size ≠ b ∧ b ∉ fp := fun b hb => by
      have hb1 := (hS b hb).1
      rw [zsz] at hb1
      have hle : s3.heap.objs.size ≤ b := Nat.le_trans (Nat.le_add_right _ 2) hb1
      refine ⟨by rw [loc]; intro e; rw [e] at hb1; exact absurd (Nat.le_trans (Nat.le_add_right _ 1) hb1) (Nat.not_succ_le_self _), fun q => ?_, hle, fun x cc e z => ?_, by rw [szh]; intro e; rw [← e] at hb1; exact absurd hb1 (Nat.not_succ_le_self _), fun hf => ?_⟩
      · have q' := I6.ok.frf b q
        rcases List.mem_cons.mp (I3.stkSub b q) with e | q
        · have h1 := I3.lt
          rw [← e] at h1
          exact Nat.lt_irrefl _ (Nat.lt_of_lt_of_le h1 hle)
        · exact I3.nofs hle q
      · rw [← hge] at e
        have e : (cloFrom X.env.cells scope.names []).lookup x = some cc := e
        rcases cloFrom_mem (PySem.mem_of_lookup e) with q | ⟨q, rfl⟩
        · cases q
        · obtain ⟨c2, hc2⟩ := free _ q rfl
          obtain ⟨_, r⟩ := I3.cell _ _ hc2
          rw [hc2] at z
          have r' := r.lt
          rw [show c2 = b from z] at r'
          exact Nat.lt_irrefl _ (Nat.lt_of_lt_of_le r' hle)
      · exact Nat.lt_irrefl _ (Nat.lt_of_lt_of_le (f3 b hf).2 hle)
    have back : ∀ H' z', Inv (gxOf X A' s3 H3 ge fp [(h'.objs.size, go)]) [] (wipe σ (own.map (·.2))) H' z' → Inv X pins σ H' z' := fun H' z' I' =>
      I3.call' (ch := fp) I'.os I'.base I'.hok I'.bare fun b hb => ⟨(f3 b hb).1.2.2.2.1, (f3 b hb).1.2.1, (f3 b hb).1.2.2.2.2.1, (f3 b hb).1.2.2.2.2.2⟩
    have st6 : tn 0 z2.heap := T.keep _ _ _ st3 fun b hb o e => kp2 b o e
    have nS : ∀ b ∈ S, H3 b = none ∧ ∃ u, z2.heap.get? b = some u ∧ ∀ v, u.data ≠ .cell v := fun b hb => ⟨I3.hok.fresh (hS' b hb).2.2.1, (hS b hb).2⟩
    have loop := gx_loop (s := s3) (H := H3) (gn := s3.gens.size) (Lk := Lk) (KK := KK) (QE := QE) (S := S) hc T turn hA' (by rw [← hge]; exact hg A' s3 H3 code fp _ rA' cA') (by rw [← hge]; exact ht A' s3 H3 code fp _ rA' cA') (by rw [← hge]; exact he A' s3 H3 code fp _ rA' cA')
      (by rw [← hge]; exact hco) isg (fun b hb e => by
        have h9 := (f3 b hb).2
        rw [← e, szh] at h9
        exact absurd h9 (Nat.not_succ_lt_self)) hS' back m0 (m0 + 1) 0 t0 z2 z2 H3 (Nat.lt_succ_self _) lk0 I6 st6 (fun b hb => (f3 b hb).1.1) nS (fun _ _ _ e => e) w0
    have hcs : genEnv scope (cloFrom X.env.cells scope.names []) s3.heap.objs.size code builtinsNs X.env = ge := hge
    rw [hcs]
    show Seg _ A _ _ _ z2 _ ((compStart (.GeneratorExp elt [⟨tg, iter, ifs, 0⟩] scope pos) 0 (.ref it) .none ge).onRaise (leaving ge)) [] z2
    unfold compStart
    rw [Sem.onRaise_eq_wrap]
    show Seg _ A _ _ _ z2 _ (Sem.wrap _ _ _ _ (ask >>= _)) [] z2
    refine seg_bind_wrap (wpAny_askSetting ?_)
    split
    · exact seg_again rfl loop
    · refine seg_bind_wrap (wpAny_rule ?_)
      show Seg _ A _ _ _ z2 _ (Sem.wrap _ _ _ _ (standAt iter.pos >>= _)) [] z2
      exact seg_bind_wrap (wpAny_standAt (seg_bind_wrap (T.self _ 0 _ _ _ st6 (seg_again rfl loop))))
  cases hf : codeAmong pos ps.toList with
  | none =>
    refine wpAny_genexprCodeX hcode (cd.code hPs htr) (cd.tab hPs) hf fun c' hh tk hx hge hlt hco' _ htab' _ => ?_
    obtain ⟨o1, vs, f1, tf, fl, tg1, inF, tx, tk1, op, _, _, _, _, _, _, _, _, _, htr2, _⟩ := hco'
    exact cont _ hh tk _ hx (Nat.le_trans hge (Nat.le_of_lt hlt)) htab'.2 htr2
  | some cv =>
    refine wpAny_genexprCode_hit hcode (cd.code hPs htr) hf ?_
    have q := cont cv s2.heap s2.toks #[] (Heap.ExtBut.refl _ _) (Nat.le_refl _) (by rw [Array.append_empty]; exact hPs) (by rw [Array.append_empty]; exact htr)
    exact q
end
end Q
namespace Q
open PySem PySem.Spec PyProof.Rows L2 GenW
section
variable {X : Cx}
/-! ## any(..), all(..) of a generator expression -/
def tGx (stop : Bool) (P : Addr) (wi : TI) (g : TG) (tt : TT) (te : TE) (vs : List Nat) : TE := fun σ H Q => wi σ H fun J H1 => GxR.TabG H1 P ∧ ∀ H2, GxR.Tabbed P H1 H2 → ∃ W, (∃ m, W 0 m () H2) ∧ GxT g tt te vs σ J (KBool stop Q) (fun _ H => Q (.bl (!stop)) H) W
theorem goes_made {T : Type} {t0 : T} {k : Nat} {pins : List (Addr × Obj)} {σ : L2.St} {KK : T → V → Hp → (T → Hp → Prop) → Prop} {QE : T → Hp → Prop} {u : Value} {z : Shared} (h : GxMade X k pins σ KK QE t0 u z) {A : Around} (hr : Room (k + 1) A) (fA : A.frames = some X.stack) (cA : Calmy A) :
    ∃ a g n H, u = .ref a ∧ a < z.heap.objs.size ∧ z.heap.IsGen a g ∧ Inv X pins σ H z ∧ ∀ (S : List Addr) (Lk : T → Shared → Prop) (z2 : Shared), Woken [] z z2 → z2.gens = z.gens → (∀ b ∈ S, z.heap.objs.size ≤ b ∧ ∃ u, z2.heap.get? b = some u ∧ ∀ v, u.data ≠ .cell v) → Lk t0 (z2.setGen g .running) → GxAt X A pins σ Lk KK QE a g S n z2 := by
  obtain ⟨a, g, n, c, H, rfl, h1, h2, h3, h5, h4⟩ := h
  refine ⟨a, g, n, H, rfl, h5, h1, h3, fun S Lk z2 wk hgen hS lk => ⟨.fresh c, by rw [hgen]; exact h2, rfl, h4 A S Lk _ hr fA cA ⟨wk.os, allBare_setGen wk.bare rfl, fun b o hb e => wk.keep b o hb e, fun b hb => by cases hb⟩ hS lk⟩⟩
theorem pe_anyG {c P : Addr} {k : Nat} {elt tg iter : Expr} {ifs : List Expr} {scope : Scope} {own : List (Str × Nat)} {p pos gpos : Pos} {wi : TI} {g : TG} {tt : TT} {te : TE}
    (hc : X.calm = true) (hN : X.N.Nodup) (hr : Room (k + 2) X.A) (gd : Calmy X.A) (hgl : Gl X "any") (hm : X.mg "any" = none) (TB : GxR.TabB X.base X.mg c P) (hcode : X.env.code = .ref c) (hi : PI X tg iter wi) (ok : BlkOk X.N X.env.scope scope own) (nc : ∀ y ∈ scope.names, y.2 ≠ .cell)
    (dot : scope.names.lookup (".0" : Str) = some NameKind.local) (hco : scope.isCoroutine = false)
    (hg : ∀ (A : Around) (s : Shared) (H : Hp) (code : Value) (fp : List Addr) (po : List (Addr × Obj)), Room k A → Calmy A → PG (gxOf X A s H (geOf X scope s code) fp po) tg g)
    (ht : ∀ (A : Around) (s : Shared) (H : Hp) (code : Value) (fp : List Addr) (po : List (Addr × Obj)), Room k A → Calmy A → PTs (gxOf X A s H (geOf X scope s code) fp po) ifs tt)
    (he : ∀ (A : Around) (s : Shared) (H : Hp) (code : Value) (fp : List Addr) (po : List (Addr × Obj)), Room k A → Calmy A → PE (gxOf X A s H (geOf X scope s code) fp po) elt te)
    (hs : ∀ v, genFold iter X.env v = pure v)
    (hst : starEach [.GeneratorExp elt [⟨tg, iter, ifs, 0⟩] scope gpos] X.env = (false, eval (.GeneratorExp elt [⟨tg, iter, ifs, 0⟩] scope gpos) X.env) :: starEach [] X.env := by rfl) :
    PE X (.Call (.Name "any" p) [.GeneratorExp elt [⟨tg, iter, ifs, 0⟩] scope gpos] [] pos) (tGx true P wi g tt te (own.map (·.2))) := by
  refine ⟨fun pins s σ H Q I h => wpAny_Call_Name_kw (ld_blt I hgl hm boot_any (PyProof.Rows.callWith_builtin1 ?_ hst (by rfl)))⟩
  rw [hst]
  show wpAny _ _ (spliced ((false, eval (.GeneratorExp elt [⟨tg, iter, ifs, 0⟩] scope gpos) X.env) :: backTo pos (starEach [] X.env))) _ _ s
  refine Calls.spliced_cons (wpAny_mono (gx_make (t0 := ()) (KK := KBool true Q) (QE := fun _ H => Q (.bl false) H) hc hN (by have := hr.dp; omega) TB hcode hi ok nc dot hco hg ht he hs I h) (fun u z hz => Calls.spliced_nil ?_) fun _ _ e => e)
  have rA : Room (k + 1) X.A.in1.in1 := ⟨hr.hd, by have := hr.dp; show X.A.depth + 3 * (k + 1) + 5 < _; omega, by have := hr.un; show X.A.units + 1 + 1 + 16 * (k + 1) + 200 < _; omega⟩
  obtain ⟨a, gn, n, H1, rfl, _, hgen, I1, hat⟩ := goes_made hz rA I.ok.frames gd
  have hat := hat [] LkU z (woken_refl I1.bare) rfl (fun b hb => by cases hb) trivial
  refine call_function_tree F.kind_any F.plain_any F.entry_any (F.args_any1 _) ?_
  unfold Builtin.«any»
  refine wpAny_bind (m := oneArg "any" _) (wpAny_pure ?_)
  refine wpAny_bind (wpAny_pyIter_gen hgen ?_)
  refine wpAny_pure ⟨plainId_quiet F.plain_any_loop _, codeAny_mono (gx_any hr.hd (by have := hr.dp; omega) n H1 z I1 hgen hat) fun r z' hq => ?_⟩
  obtain ⟨b, H', rfl, I', q⟩ := hq
  exact ⟨.bl b, H', I', rfl, q⟩
theorem boot_all' : bootBuiltins "all" = some (.builtin "all") := by decide +kernel
theorem pe_allG {c P : Addr} {k : Nat} {elt tg iter : Expr} {ifs : List Expr} {scope : Scope} {own : List (Str × Nat)} {p pos gpos : Pos} {wi : TI} {g : TG} {tt : TT} {te : TE}
    (hc : X.calm = true) (hN : X.N.Nodup) (hr : Room (k + 2) X.A) (gd : Calmy X.A) (hgl : Gl X "all") (hm : X.mg "all" = none) (TB : GxR.TabB X.base X.mg c P) (hcode : X.env.code = .ref c) (hi : PI X tg iter wi) (ok : BlkOk X.N X.env.scope scope own) (nc : ∀ y ∈ scope.names, y.2 ≠ .cell)
    (dot : scope.names.lookup (".0" : Str) = some NameKind.local) (hco : scope.isCoroutine = false)
    (hg : ∀ (A : Around) (s : Shared) (H : Hp) (code : Value) (fp : List Addr) (po : List (Addr × Obj)), Room k A → Calmy A → PG (gxOf X A s H (geOf X scope s code) fp po) tg g)
    (ht : ∀ (A : Around) (s : Shared) (H : Hp) (code : Value) (fp : List Addr) (po : List (Addr × Obj)), Room k A → Calmy A → PTs (gxOf X A s H (geOf X scope s code) fp po) ifs tt)
    (he : ∀ (A : Around) (s : Shared) (H : Hp) (code : Value) (fp : List Addr) (po : List (Addr × Obj)), Room k A → Calmy A → PE (gxOf X A s H (geOf X scope s code) fp po) elt te)
    (hs : ∀ v, genFold iter X.env v = pure v)
    (hst : starEach [.GeneratorExp elt [⟨tg, iter, ifs, 0⟩] scope gpos] X.env = (false, eval (.GeneratorExp elt [⟨tg, iter, ifs, 0⟩] scope gpos) X.env) :: starEach [] X.env := by rfl) :
    PE X (.Call (.Name "all" p) [.GeneratorExp elt [⟨tg, iter, ifs, 0⟩] scope gpos] [] pos) (tGx false P wi g tt te (own.map (·.2))) := by
  refine ⟨fun pins s σ H Q I h => wpAny_Call_Name_kw (ld_blt I hgl hm boot_all' (PyProof.Rows.callWith_builtin1 ?_ hst (by rfl)))⟩
  rw [hst]
  show wpAny _ _ (spliced ((false, eval (.GeneratorExp elt [⟨tg, iter, ifs, 0⟩] scope gpos) X.env) :: backTo pos (starEach [] X.env))) _ _ s
  refine Calls.spliced_cons (wpAny_mono (gx_make (t0 := ()) (KK := KBool false Q) (QE := fun _ H => Q (.bl true) H) hc hN (by have := hr.dp; omega) TB hcode hi ok nc dot hco hg ht he hs I h) (fun u z hz => Calls.spliced_nil ?_) fun _ _ e => e)
  have rA : Room (k + 1) X.A.in1.in1 := ⟨hr.hd, by have := hr.dp; show X.A.depth + 3 * (k + 1) + 5 < _; omega, by have := hr.un; show X.A.units + 1 + 1 + 16 * (k + 1) + 200 < _; omega⟩
  obtain ⟨a, gn, n, H1, rfl, _, hgen, I1, hat⟩ := goes_made hz rA I.ok.frames gd
  have hat := hat [] LkU z (woken_refl I1.bare) rfl (fun b hb => by cases hb) trivial
  refine call_function_tree F.kind_all F.plain_all F.entry_all (F.args_all1 _) ?_
  unfold Builtin.«all»
  refine wpAny_bind (m := oneArg "all" _) (wpAny_pure ?_)
  refine wpAny_bind (wpAny_pyIter_gen hgen ?_)
  refine wpAny_pure ⟨plainId_quiet F.plain_all_loop _, codeAny_mono (gx_all hr.hd (by have := hr.dp; omega) n H1 z I1 hgen hat) fun r z' hq => ?_⟩
  obtain ⟨b, H', rfl, I', q⟩ := hq
  exact ⟨.bl b, H', I', rfl, q⟩
end
/-! ### in plain words -/
section
variable {K : PySem.W.Frag} {cl : String → Option Addr} {g : G} {env : En} {σ : L2.St} {I H H' : Hp} {P : Addr}
/-- a table has grown -/
theorem SR.tabbed (R : SR K cl g env σ I H) (hP : IsTab cl P) (t : GxR.Tabbed P H H') : SR K cl g env σ I H' := by
  obtain ⟨t1, t2⟩ := t
  obtain ⟨p1, p2, p3⟩ := R.tb P hP
  have keep : ∀ a o, H a = some o → (∀ ps, o ≠ .tbl ps) → H' a = some o := fun a o e n => by
    rw [t2 a fun z => ?_]; exact e
    obtain ⟨ps, q, _⟩ := p2
    rw [z, q] at e
    exact n ps (Option.some.inj e).symm
  have ko : ∀ a o d, H a = some o → ObjRep K cl I d o → H' a = some o := fun a o d e r => keep a o e fun ps z => r.notTab z
  have tn : ∀ a, a ≠ P → H' a = H a := t2
  refine ⟨fun a o e => ?_, R.i0, fun a o h n nt => ?_, R.hi, fun a h => ?_, R.len, fun i sl h => ?_, R.dis, fun a o h => ?_, R.ex0, fun a h => ?_⟩
  · rw [tn a fun z => by rw [z, p1] at e; cases e]; exact R.sub a o e
  · rw [tn a fun z => nt (z ▸ hP)]; exact R.h0 a o h n nt
  · obtain ⟨⟨o, h1⟩, h2, h3⟩ := R.oh a h
    by_cases z : a = P
    · obtain ⟨ps, q, _⟩ := t1
      exact ⟨⟨_, by rw [z]; exact q⟩, h2, h3⟩
    · exact ⟨⟨o, by rw [tn a z]; exact h1⟩, h2, h3⟩
  · obtain ⟨x, hx, q⟩ := R.at_ i sl h
    refine ⟨x, hx, ?_⟩
    cases sl with
    | un => trivial
    | imm d => exact q
    | bor d => obtain ⟨a, e, o, h1, h2⟩ := q; exact ⟨a, e, o, ko a o d h1 h2, h2⟩
    | own d => obtain ⟨a, o, e, h1, h2⟩ := q; exact ⟨a, o, e, ko a o d h1 h2.1, h2⟩
    | lck d => obtain ⟨a, o, e, h1, h2⟩ := q; exact ⟨a, o, e, ko a o d h1 h2.1, h2⟩
    | io k d => obtain ⟨a, o, e, h0, h1, h2⟩ := q; exact ⟨a, o, e, h0, ko a o d h1 h2, h2⟩
  · obtain ⟨h1, h2, h3⟩ := R.ex a o h
    by_cases z : a = P
    · rw [z] at h
      have := R.ex0 P o h
      obtain ⟨u, hu⟩ := p3
      rw [hu] at this; cases this
    · exact ⟨by rw [tn a z]; exact h1, h2, h3⟩
  · obtain ⟨h1, h2, h3⟩ := R.tb a h
    by_cases z : a = P
    · rw [z] at h1 h3 ⊢; exact ⟨h1, t1, h3⟩
    · obtain ⟨ps, q, r⟩ := h2
      exact ⟨h1, ⟨ps, by rw [tn a z]; exact q, r⟩, h3⟩
end
def gxLoop (stop : Bool) (gf : D → En → Option En) (mt : MT) (me : ME) (vs : List Nat) : List D → En → Option (Bool × En)
  | [], env => some (!stop, env)
  | d :: ds, env => (gf d (wipeE env vs)).bind fun e1 => (mt e1).bind fun p => if p.1 then (me p.2).bind fun q => match q.1 with
      | .bl c => if c = stop then some (stop, q.2) else gxLoop stop gf mt me vs ds q.2
      | _ => none
    else gxLoop stop gf mt me vs ds p.2
def mGx (stop : Bool) (vs : List Nat) (mi : MI) (gf : D → En → Option En) (mt : MT) (me : ME) : ME := fun env => (mi env).bind fun p => if calmAt p.2 vs = true then (gxLoop stop gf mt me vs p.1 p.2).map fun q => (.bl q.1, backE p.2 (wipeE q.2 vs) vs) else none
section
variable {Z : Zc}
/-- a generator expression's frame -/
def ZG (Z : Zc) (scope : Scope) (k : Nat) : Zc := { Z with sc := scope, all := false, k := k, me := none }
theorem inG {X : Cx} {scope : Scope} {k : Nat} (h : InF Z X) {A : Around} {s : Shared} {H : Hp} {code : Value} {fp : List Addr} {po : List (Addr × Obj)} (hr : Room k A) (hA : Calmy A) : InF (ZG Z scope k) (gxOf X A s H (geOf X scope s code) fp po) :=
  ⟨h.prog, h.w, h.K, h.mg, h.base, h.N, rfl, h.calm, hr, h.nd, (fun e => Bool.noConfusion (show false = true from e)), PassesOwn.never, hA, fun _ _ e => by cases e⟩
theorem gx_it {T : Type} {t0 : T} {n : Nat} {J : It} {Gd : Hp → Prop} {Y : Nat → Hp → V → Hp → Prop} {g : TG} {tt : TT} {te : TE} {vs : List Nat} {σ : L2.St} {H1 : Hp} {KK : T → V → Hp → (T → Hp → Prop) → Prop} {QE : T → Hp → Prop} (hw : Walk J n Gd Y) (Pv : Nat → T → Hp → Prop) (h0 : Pv 0 t0 H1) (hl : ∀ i t H, i ≤ n → Pv i t H → Gd H)
    (hs : ∀ i t x H H', i < n → Pv i t H → Y i H x H' → g x (wipe σ vs) H' fun σ2 H2 => wipe σ2 vs = wipe σ vs ∧ tt σ2 H2 fun b H3 => if b = true then te σ2 H3 fun y H4 => KK t y H4 (Pv (i + 1)) else Pv (i + 1) t H3)
    (hd : ∀ t H, Pv n t H → QE t H) : ∃ W, (∃ m, W 0 m t0 H1) ∧ GxT g tt te vs σ J KK QE W := by
  refine ⟨fun j q t C => q + j = n ∧ Pv j t C, ⟨n, rfl, h0⟩, fun j q t C ⟨e, p⟩ => ?_⟩
  have gd := hl j t C (by omega) p
  rcases Nat.eq_zero_or_pos q with z | z
  · have ej : j = n := by omega
    rw [ej] at p ⊢
    exact .inl ⟨hw.stops C gd, hd t C p⟩
  · have lt : j < n := by omega
    exact .inr ⟨hw.goes j C lt gd, Pv (j + 1), fun t' C' p' => ⟨q - 1, by omega, by omega, p'⟩, fun x C' y => hs j t x C C' lt p (hw.yields j C x C' lt gd y)⟩
/-- the meaning of any(..), all(..) -/
theorem gx_se {P : Addr} {stop : Bool} {wi : TI} {gt : TG} {tt : TT} {te : TE} {vs : List Nat} {mi : MI} {gf : D → En → Option En} {mt : MT} {me : ME} {ix : List Nat} (hP : IsTab Z.cl P) (hnd : vs.Nodup) (hix : ∀ i ∈ ix, i ∈ vs) (i2 : SI Z wi mi)
    (g2 : ∀ (g : G) (env : En) (σ : L2.St) (I H : Hp) (d : D) (v : V) (Q : L2.St → Hp → Prop) (env' : En), SR Z.K Z.cl g env σ I H → Rep Z.K Z.cl I d v → gf d env = some env' →
      (∀ σ', SR Z.K Z.cl g env' σ' I H → (∀ vs, (∀ i ∈ ix, i ∈ vs) → wipe σ' vs = wipe σ vs) → Q σ' H) → gt v σ H Q)
    (t2 : ST Z tt mt) (e2 : SE Z te me) : SE Z (tGx stop P wi gt tt te vs) (mGx stop vs mi gf mt me) := by
  intro g env σ I H Q d env' R hm k
  unfold mGx at hm
  obtain ⟨⟨ds, en⟩, e1, hm⟩ := Option.bind_eq_some_iff.mp hm
  dsimp only at hm
  split at hm
  · rename_i hcalm
    obtain ⟨⟨bb, enf⟩, e3, hm⟩ := Option.map_eq_some_iff.mp hm
    cases hm
    refine i2 g env σ I H _ ds en R e1 fun J I1 H1 R1 s1 wd => ?_
    obtain ⟨Gd, Y, hw, hgd, hy⟩ := wd
    refine ⟨(R1.tb P hP).2.1, fun H2 tab => ?_⟩
    have R2 := R1.tabbed hP tab
    have ww : ∀ (ws us : List Nat) (τ : L2.St), (∀ u ∈ us, u ∈ ws) → wipe (wipe τ us) ws = wipe τ ws := by
      intro ws us
      induction us with
      | nil => intro τ _; rfl
      | cons u us ih =>
        intro τ hu
        show wipe ((wipe τ us).set u none) ws = wipe τ ws
        rw [wipe_set (hu u List.mem_cons_self), ih τ fun v hv => hu v (List.mem_cons_of_mem _ hv)]
    -- where the loop ends
    have out : ∀ {en2 : En} {I2 H2 : Hp} {c : Bool}, SR Z.K Z.cl g (wipeE en2 vs) (wipe σ vs) I2 H2 → Same I1 I2 → (c, en2) = (bb, enf) → Q (.bl c) H2 := fun {en2 I2 H2 c} R' s' e => by
      cases e
      exact k _ I2 H2 (SR.back R1 vs hnd hcalm R' s') (s1.trans s') .bl
    refine gx_it (t0 := ()) hw (fun i _ H' => ∃ en2 I2, SR Z.K Z.cl g (wipeE en2 vs) (wipe σ vs) I2 H' ∧ Same I1 I2 ∧ gxLoop stop gf mt me vs (ds.drop i) en2 = some (bb, enf)) ⟨en, I1, R2.wipe vs, Same.refl _, e3⟩ (fun i _ H' _ ⟨_, I2, R', s', _⟩ => hgd I2 H' s' R'.sub) ?_ ?_
    · rintro i _ x C C' hlt ⟨en2, I2, R', s', hm2⟩ hyld
      have hdi : ds[i]? = some ds[i] := List.getElem?_eq_getElem hlt
      rw [List.drop_eq_getElem_cons hlt] at hm2
      obtain ⟨I3, R3, s3, r3⟩ := hy i ds[i] _ _ _ I2 C x C' hdi s' R' hyld
      unfold gxLoop at hm2
      obtain ⟨en3, q1, hm2⟩ := Option.bind_eq_some_iff.mp hm2
      refine g2 _ _ _ I3 C' ds[i] x _ en3 R3 r3 q1 fun σ4 R4 w4 => ?_
      have hwp : wipe σ4 vs = wipe σ vs := by rw [w4 vs hix]; exact ww vs vs σ fun _ h => h
      refine ⟨hwp, ?_⟩
      obtain ⟨⟨b, en4⟩, q2, hm2⟩ := Option.bind_eq_some_iff.mp hm2
      refine t2 _ _ _ I3 C' _ b en4 R4 q2 fun I5 H5 R5 s5 => ?_
      have nxt : ∀ {I6 H6 : Hp} {en6 : En}, SR Z.K Z.cl g en6 σ4 I6 H6 → SR Z.K Z.cl g (wipeE en6 vs) (wipe σ vs) I6 H6 := fun {I6 H6 en6} R6 => by
        have R7 := R6.wipe vs
        rw [hwp] at R7
        exact R7
      cases b with
      | false =>
        simp only [Bool.false_eq_true, if_false] at hm2 ⊢
        exact ⟨en4, I5, nxt R5, (s'.trans s3).trans s5, hm2⟩
      | true =>
        simp only [if_true] at hm2 ⊢
        obtain ⟨⟨y, en5⟩, q3, hm2⟩ := Option.bind_eq_some_iff.mp hm2
        refine e2 _ _ _ I5 H5 _ y en5 R5 q3 fun v I6 H6 R6 s6 rv => ?_
        dsimp only at hm2
        split at hm2
        · rename_i c
          refine ⟨c, rv.bl_inv, ?_⟩
          split at hm2
          · rename_i hc
            rw [if_pos hc]
            exact out (nxt R6) (((s'.trans s3).trans s5).trans s6) (Option.some.inj hm2)
          · rename_i hc
            rw [if_neg hc]
            exact ⟨en5, I6, nxt R6, ((s'.trans s3).trans s5).trans s6, hm2⟩
        · cases hm2
    · rintro _ C ⟨en2, I2, R', s', hm2⟩
      rw [List.drop_length] at hm2
      exact out R' s' (Option.some.inj hm2)
  · cases hm
/-- what is asked of a generator expression's scope -/
def gxC (scope : Scope) : Bool := (scope.names.all fun y => match y.2 with | .cell => false | _ => true) && decide (scope.names.lookup (".0" : Str) = some NameKind.local) && !scope.isCoroutine
theorem gxC_ok {scope : Scope} (h : gxC scope = true) : (∀ y ∈ scope.names, y.2 ≠ .cell) ∧ scope.names.lookup (".0" : Str) = some NameKind.local ∧ scope.isCoroutine = false := by
  unfold gxC at h
  simp only [Bool.and_eq_true, List.all_eq_true, decide_eq_true_eq, Bool.not_eq_true'] at h
  refine ⟨fun y hy e => ?_, h.1.2, h.2⟩
  have := h.1.1 y hy
  rw [e] at this
  cases this
theorem ev_any {c P : Addr} {k : Nat} {elt tg iter : Expr} {ifs : List Expr} {scope : Scope} {own : List (Str × Nat)} {p pos gpos : Pos} {mi : MI} {ix : List Nat} {gf : D → En → Option En} {mt : MT} {me : ME} (hme : Z.me = some (c, P)) (hk : k + 2 ≤ Z.k) (hgl : GlZ Z "any") (hm : Z.mg "any" = none)
    (hi : IV Z tg iter mi) (ok : BlkOk Z.N Z.sc scope own) (hsc : gxC scope = true) (hg : GV (ZG Z scope k) tg ix gf) (ht : CV (ZG Z scope k) ifs mt) (he : EV (ZG Z scope k) elt me) (hP : IsTab Z.cl P)
    (hnd : (own.map (·.2)).Nodup := by decide) (hix : ∀ i ∈ ix, i ∈ own.map (·.2) := by decide) (hs : ∀ env v, genFold iter env v = pure v := by intro _ _; rfl)
    (hst : ∀ env, starEach [.GeneratorExp elt [⟨tg, iter, ifs, 0⟩] scope gpos] env = (false, eval (.GeneratorExp elt [⟨tg, iter, ifs, 0⟩] scope gpos) env) :: starEach [] env := by intro _; rfl) :
    EV Z (.Call (.Name "any" p) [.GeneratorExp elt [⟨tg, iter, ifs, 0⟩] scope gpos] [] pos) (mGx true (own.map (·.2)) mi gf mt me) := by
  obtain ⟨wi, i1, i2⟩ := hi
  obtain ⟨gt, g1, g2⟩ := hg
  obtain ⟨tt, t1, t2⟩ := ht
  obtain ⟨te, e1, e2⟩ := he
  obtain ⟨n1, n2, n3⟩ := gxC_ok hsc
  exact ⟨_, fun X i => pe_anyG (k := k) i.calm i.nd (i.room.mono hk) i.gd (glOf i hgl) (by rw [i.mg]; exact hm) (i.cd c P hme).2.1 (i.cd c P hme).1 (i1 X i) (by rw [i.N, i.sc]; exact ok) n1 n2 n3 (fun A s H code fp po hr hA => g1 _ (inG i hr hA)) (fun A s H code fp po hr hA => t1 _ (inG i hr hA)) (fun A s H code fp po hr hA => e1 _ (inG i hr hA)) (hs _) (hst _),
    gx_se hP hnd hix i2 g2 t2 e2⟩
theorem ev_all {c P : Addr} {k : Nat} {elt tg iter : Expr} {ifs : List Expr} {scope : Scope} {own : List (Str × Nat)} {p pos gpos : Pos} {mi : MI} {ix : List Nat} {gf : D → En → Option En} {mt : MT} {me : ME} (hme : Z.me = some (c, P)) (hk : k + 2 ≤ Z.k) (hgl : GlZ Z "all") (hm : Z.mg "all" = none)
    (hi : IV Z tg iter mi) (ok : BlkOk Z.N Z.sc scope own) (hsc : gxC scope = true) (hg : GV (ZG Z scope k) tg ix gf) (ht : CV (ZG Z scope k) ifs mt) (he : EV (ZG Z scope k) elt me) (hP : IsTab Z.cl P)
    (hnd : (own.map (·.2)).Nodup := by decide) (hix : ∀ i ∈ ix, i ∈ own.map (·.2) := by decide) (hs : ∀ env v, genFold iter env v = pure v := by intro _ _; rfl)
    (hst : ∀ env, starEach [.GeneratorExp elt [⟨tg, iter, ifs, 0⟩] scope gpos] env = (false, eval (.GeneratorExp elt [⟨tg, iter, ifs, 0⟩] scope gpos) env) :: starEach [] env := by intro _; rfl) :
    EV Z (.Call (.Name "all" p) [.GeneratorExp elt [⟨tg, iter, ifs, 0⟩] scope gpos] [] pos) (mGx false (own.map (·.2)) mi gf mt me) := by
  obtain ⟨wi, i1, i2⟩ := hi
  obtain ⟨gt, g1, g2⟩ := hg
  obtain ⟨tt, t1, t2⟩ := ht
  obtain ⟨te, e1, e2⟩ := he
  obtain ⟨n1, n2, n3⟩ := gxC_ok hsc
  exact ⟨_, fun X i => pe_allG (k := k) i.calm i.nd (i.room.mono hk) i.gd (glOf i hgl) (by rw [i.mg]; exact hm) (i.cd c P hme).2.1 (i.cd c P hme).1 (i1 X i) (by rw [i.N, i.sc]; exact ok) n1 n2 n3 (fun A s H code fp po hr hA => g1 _ (inG i hr hA)) (fun A s H code fp po hr hA => t1 _ (inG i hr hA)) (fun A s H code fp po hr hA => e1 _ (inG i hr hA)) (hs _) (hst _),
    gx_se hP hnd hix i2 g2 t2 e2⟩
end
section
variable {c : Pc} {j k l np : Nat} {x m : Str} {cn : String} {N M : List Str} {mf : MS} {sc s1 : Scope} {me : Option (Addr × Addr)}
theorem FnC.zg (F : FnC c j x M np mf) (h : j ≤ k) : FnZ (ZG (c.z l N sc me) s1 k) x M np mf := let ⟨f, fd, ps, h1, h2⟩ := F.ex; ⟨f, fd, ps, h1.mono h, h2⟩
theorem MtC.zg (F : MtC c j cn m M np mf) (h : j ≤ k) : MtZ (ZG (c.z l N sc me) s1 k) cn m M np mf := let ⟨C, f, fd, ps, q1, q2, q3, h1, h2⟩ := F.ex; ⟨C, f, fd, ps, q1, q2, q3, h1.mono h, h2⟩
end
end Q
namespace Q
open PySem PySem.Spec PyProof.Rows L2 GenW
/-! ## sum(..) of a generator expression, small numbers -/
section
variable {X : Cx} {pins : List (Addr × Obj)} {σ : L2.St} {a : Addr} {g : Nat}
abbrev accObj (i : Int) (t : Tok) (c : Nat) : Obj := { cls := .type "list", dict := none, data := .seq #[.int i t] c, slots := #[] }
def smallI (i : Int) : Bool := decide (-1000000000 ≤ i) && decide (i ≤ 1000000000)
theorem smallI_fits {i : Int} (h : smallI i = true) : (decide (-(2 ^ 63) ≤ i) && decide (i < 2 ^ 63)) = true := by
  unfold smallI at h
  simp only [Bool.and_eq_true, decide_eq_true_eq] at h ⊢
  omega
/-- the consumer holds the number i in its list at S -/
def LkS (S : Addr) : Int → Shared → Prop := fun i s => ∃ t c, s.heap.get? S = some (accObj i t c)
def KSum : Int → V → Hp → (Int → Hp → Prop) → Prop := fun acc y H Nx => ∃ i, y = .int i ∧ smallI i = true ∧ smallI (acc + i) = true ∧ Nx (acc + i) H
theorem gx_sum {Q : VK} {A : Around} {S : Addr} (hh : A.handled = none) (hd : A.depth < recursionLimit) :
    ∀ (n : Nat) (acc : Int) (tk : Tok) (c : Nat) (H : Hp) (z : Shared), Inv X pins σ H z → FpOk X pins H S → z.heap.IsGen a g → a ≠ S → z.heap.get? S = some (accObj acc tk c) → GxAt X A.in1.in1 pins σ (LkS S) KSum (fun i H => Q (.int i) H) a g [S] n z →
      codeAny (model X.prog X.w) A (.builtin "sum.loop" ⟨[.ref a, .ref S, rawInt 0, rawInt 0], []⟩) (fun r z' => ∃ i t H', r = .ok (.ret (.int i t)) ∧ Inv X pins σ H' z' ∧ Q (.int i) H') z := by
  intro n
  induction n using Nat.strongRecOn with
  | ind n ih =>
    intro acc tk c H z I fS hg haS hS h
    refine codeAny_builtin F.entry_sum_loop ?_
    rw [Around.under_plainId F.plain_sum_loop _]
    show wpAny _ A.in1 (seqItems? (.ref S) >>= _) _ _ z
    refine wpAny_bind (wpAny_seqItems hS rfl ?_)
    show wpAny _ A.in1 (tryCatch (pyNext (.ref a)) _ >>= _) _ _ z
    have same : ∀ {t : Int}, LkS S t (z.setGen g .running) → t = acc := fun {t} ⟨t1, c1, e⟩ => by
      have e : z.heap.get? S = some (accObj t t1 c1) := e
      rw [hS] at e
      injection e with e
      injection e with _ _ e _
      injection e with e _
      have e2 := congrArg (fun x : Array Value => x[0]?) e
      simp at e2
      exact e2.1.symm
    refine wpAny_bind (wpAny_tryCatch (gx_next (A := A.in1) hh hd I.nolimit hg h (fun v z1 t y H1 Nx hg1 lk kS rv I1 n1 hk nx => ?_) fun z1 t H1 lk kS I1 n1 q => ?_))
    · obtain ⟨i, rfl, hf1, hf2, hk⟩ := hk
      obtain ⟨ti, rfl⟩ := rv
      obtain rfl := same lk
      have hS1 : z1.heap.get? S = some (accObj t tk c) := kS S (by simp) _ hS
      show wpAny _ A.in1 (if ((decide (-(2 ^ 63) ≤ i) && decide (i < 2 ^ 63)) && (decide (-(2 ^ 63) ≤ t + i) && decide (t + i < 2 ^ 63))) = true then (mkInt (t + i) >>= _) else _) _ _ _
      rw [if_pos (by rw [smallI_fits hf1, smallI_fits hf2]; rfl)]
      refine wpAny_bind (wpAny_mkInt ?_)
      show wpAny _ A.in1 (updateSeq S (fun _ => #[.int (t + i) z1.toks]) >>= _) _ _ _
      refine wpAny_bind ?_
      refine wpAny_updateSeq hS1 rfl (wpAny_pure ⟨plainId_quiet F.plain_sum_loop _, ?_⟩)
      generalize hz2 : ({ z1 with heap := z1.heap.update S (Obj.mapSeq fun _ => #[.int (t + i) z1.toks]), toks := z1.toks + 1 } : Shared) = z2
      have e2 : z2.heap = z1.heap.update S (Obj.mapSeq fun _ => #[.int (t + i) z1.toks]) := by rw [← hz2]
      have g2 : z2.gens = z1.gens := by rw [← hz2]
      have hS2 : ∃ c', z2.heap.get? S = some (accObj (t + i) z1.toks c') := by
        rw [e2]; exact ⟨_, Heap.get?_update_self _ hS1 rfl⟩
      obtain ⟨c', hS2⟩ := hS2
      have keep : ∀ b o, b ∉ [S] → z1.heap.get? b = some o → z2.heap.get? b = some o := fun b o hb e => by
        rw [e2]; exact (Heap.get?_update_other _ _ (fun q : S = b => hb (by rw [q]; simp))).trans e
      have wk : Woken [S] z1 z2 := ⟨by rw [← hz2], by rw [g2]; exact I1.bare, keep, fun b hb => by
        have hb : b = S := by simpa using hb
        rw [hb]; exact ⟨_, hS2, fun v q => by cases q⟩⟩
      have fS1 : ∀ b ∈ [S], FpOk X pins H1 b := fun b hb => by
        have hb : b = S := by simpa using hb
        rw [hb]
        obtain ⟨_, f1, f2, f3, f4, f5⟩ := fS
        exact ⟨n1 S (by simp), f1, f2, f3, f4, f5⟩
      obtain ⟨m, at1⟩ := nx (t + i) hk
      obtain ⟨hm, at1⟩ := at1 z2 wk g2 ⟨_, _, hS2⟩
      refine ih m (by omega) (t + i) _ _ H1 z2 (inv_woken I1 fS1 wk) (fS1 S (by simp)) ?_ haS hS2 at1
      obtain ⟨o, nm, qn, ho, r⟩ := hg1
      exact ⟨o, nm, qn, keep a o (fun q => haS (by simpa using q)) ho, r⟩
    · obtain rfl := same lk
      exact wpAny_pure ⟨t, tk, H1, rfl, I1, q⟩
end
section
variable {X : Cx}
def tSum (P : Addr) (wi : TI) (g : TG) (tt : TT) (te : TE) (vs : List Nat) : TE := fun σ H Q => wi σ H fun J H1 => GxR.TabG H1 P ∧ ∀ H2, GxR.Tabbed P H1 H2 → ∃ W, (∃ m, W 0 m (0 : Int) H2) ∧ GxT g tt te vs σ J KSum (fun i H => Q (.int i) H) W
theorem boot_sum' : bootBuiltins "sum" = some (.builtin "sum") := by decide +kernel
theorem pe_sumG {c P : Addr} {k : Nat} {elt tg iter : Expr} {ifs : List Expr} {scope : Scope} {own : List (Str × Nat)} {p pos gpos : Pos} {wi : TI} {g : TG} {tt : TT} {te : TE}
    (hc : X.calm = true) (hN : X.N.Nodup) (hr : Room (k + 2) X.A) (gd : Calmy X.A) (hgl : Gl X "sum") (hm : X.mg "sum" = none) (TB : GxR.TabB X.base X.mg c P) (hcode : X.env.code = .ref c) (hi : PI X tg iter wi) (ok : BlkOk X.N X.env.scope scope own) (nc : ∀ y ∈ scope.names, y.2 ≠ .cell)
    (dot : scope.names.lookup (".0" : Str) = some NameKind.local) (hco : scope.isCoroutine = false)
    (hg : ∀ (A : Around) (s : Shared) (H : Hp) (code : Value) (fp : List Addr) (po : List (Addr × Obj)), Room k A → Calmy A → PG (gxOf X A s H (geOf X scope s code) fp po) tg g)
    (ht : ∀ (A : Around) (s : Shared) (H : Hp) (code : Value) (fp : List Addr) (po : List (Addr × Obj)), Room k A → Calmy A → PTs (gxOf X A s H (geOf X scope s code) fp po) ifs tt)
    (he : ∀ (A : Around) (s : Shared) (H : Hp) (code : Value) (fp : List Addr) (po : List (Addr × Obj)), Room k A → Calmy A → PE (gxOf X A s H (geOf X scope s code) fp po) elt te)
    (hs : ∀ v, genFold iter X.env v = pure v)
    (hst : starEach [.GeneratorExp elt [⟨tg, iter, ifs, 0⟩] scope gpos] X.env = (false, eval (.GeneratorExp elt [⟨tg, iter, ifs, 0⟩] scope gpos) X.env) :: starEach [] X.env := by rfl) :
    PE X (.Call (.Name "sum" p) [.GeneratorExp elt [⟨tg, iter, ifs, 0⟩] scope gpos] [] pos) (tSum P wi g tt te (own.map (·.2))) := by
  refine ⟨fun pins s σ H Q I h => wpAny_Call_Name_kw (ld_blt I hgl hm boot_sum' (PyProof.Rows.callWith_builtin1 ?_ hst (by rfl)))⟩
  rw [hst]
  show wpAny _ _ (spliced ((false, eval (.GeneratorExp elt [⟨tg, iter, ifs, 0⟩] scope gpos) X.env) :: backTo pos (starEach [] X.env))) _ _ s
  refine Calls.spliced_cons (wpAny_mono (gx_make (t0 := (0 : Int)) (KK := KSum) (QE := fun i H => Q (.int i) H) hc hN (by have := hr.dp; omega) TB hcode hi ok nc dot hco hg ht he hs I h) (fun u z hz => Calls.spliced_nil ?_) fun _ _ e => e)
  have rA : Room (k + 1) X.A.in1.in1 := ⟨hr.hd, by have := hr.dp; show X.A.depth + 3 * (k + 1) + 5 < _; omega, by have := hr.un; show X.A.units + 1 + 1 + 16 * (k + 1) + 200 < _; omega⟩
  obtain ⟨a, gn, n, H1, rfl, halt, hgen, I1, hat⟩ := goes_made hz rA I.ok.frames gd
  refine call_function_tree F.kind_sum F.plain_sum F.entry_sum (F.args_sum1 _) ?_
  unfold Builtin.«sum»
  simp only [List.length_cons, List.length_nil]
  rw [if_neg (by decide)]
  refine wpAny_bind (wpAny_of_eq (show Builtin.Builtins.bindParams "sum" ["start"] 0 {} = pure [none] from rfl) (wpAny_bind (wpAny_pyIter_gen hgen ?_)))
  refine wpAny_bind (wpAny_mkInt (wpAny_bind (wpAny_pure ?_)))
  simp only [List.forIn_cons, List.forIn_nil]
  refine wpAny_bind (wpAny_bind (wpAny_bind (wpAny_isInstance (T := "int") (b := false) (typeIs_int _ _ _) PySem.sub_int_str ?_)))
  simp only [Bool.false_eq_true, if_false]
  refine wpAny_pure (wpAny_bind (wpAny_bind (wpAny_isInstance (T := "int") (b := false) (typeIs_int _ _ _) PySem.sub_int_bytes ?_)))
  simp only [Bool.false_eq_true, if_false]
  refine wpAny_pure (wpAny_bind (wpAny_bind (wpAny_isInstance (T := "int") (b := false) (typeIs_int _ _ _) PySem.sub_int_bytearray ?_)))
  simp only [Bool.false_eq_true, if_false]
  refine wpAny_pure (wpAny_pure ?_)
  refine wpAny_bind (wpAny_newObj_type ?_)
  generalize hz2 : ({ z with heap := z.heap.push { cls := .type "list", data := .seq [Value.int 0 z.toks].toArray }, toks := z.toks + 1 } : Shared) = z2
  have e2 : z2.heap = z.heap.push { cls := .type "list", data := .seq [Value.int 0 z.toks].toArray } := by rw [← hz2]
  have hS2 : z2.heap.get? z.heap.objs.size = some (accObj 0 z.toks 0) := by rw [e2]; exact Heap.get?_push_size _ rfl
  have kp : ∀ b o, z.heap.get? b = some o → z2.heap.get? b = some o := fun b o e => by rw [e2]; exact Heap.get?_push_of_some _ e
  have wk : Woken [] z z2 := ⟨by rw [← hz2], by rw [← hz2]; exact I1.bare, fun b o _ e => kp b o e, fun b hb => by cases hb⟩
  have I2 := inv_woken (S := []) I1 (fun b hb => by cases hb) wk
  have hat2 := hat [z.heap.objs.size] (LkS z.heap.objs.size) z2 wk (by rw [← hz2]) (fun b hb => by
    have hb : b = z.heap.objs.size := by simpa using hb
    rw [hb]; exact ⟨Nat.le_refl _, _, hS2, fun v q => by cases q⟩) ⟨_, _, hS2⟩
  obtain ⟨o, nm, qn, ho, r⟩ := hgen
  refine wpAny_pure ⟨plainId_quiet F.plain_sum_loop _, ?_⟩
  refine codeAny_mono (gx_sum hr.hd (by have := hr.dp; omega) n 0 z.toks 0 H1 z2 I2 (I1.fpOk (Nat.le_refl _) (I1.hok.fresh (Nat.le_refl _))) ⟨o, nm, qn, kp a o ho, r⟩ (Nat.ne_of_lt halt) hS2 hat2) fun r z' hq => ?_
  obtain ⟨i, t, H', rfl, I', q⟩ := hq
  exact ⟨.int i, H', I', ⟨t, rfl⟩, q⟩
end
def sumLoop (gf : D → En → Option En) (mt : MT) (me : ME) (vs : List Nat) : List D → Int → En → Option (Int × En)
  | [], acc, env => some (acc, env)
  | d :: ds, acc, env => (gf d (wipeE env vs)).bind fun e1 => (mt e1).bind fun p => if p.1 then (me p.2).bind fun q => match q.1 with
      | .int i => if (smallI i && smallI (acc + i)) = true then sumLoop gf mt me vs ds (acc + i) q.2 else none
      | _ => none
    else sumLoop gf mt me vs ds acc p.2
def mSum (vs : List Nat) (mi : MI) (gf : D → En → Option En) (mt : MT) (me : ME) : ME := fun env => (mi env).bind fun p => if calmAt p.2 vs = true then (sumLoop gf mt me vs p.1 0 p.2).map fun q => (.int q.1, backE p.2 (wipeE q.2 vs) vs) else none
section
variable {Z : Zc}
theorem sum_se {P : Addr} {wi : TI} {gt : TG} {tt : TT} {te : TE} {vs : List Nat} {mi : MI} {gf : D → En → Option En} {mt : MT} {me : ME} {ix : List Nat} (hP : IsTab Z.cl P) (hnd : vs.Nodup) (hix : ∀ i ∈ ix, i ∈ vs) (i2 : SI Z wi mi)
    (g2 : ∀ (g : G) (env : En) (σ : L2.St) (I H : Hp) (d : D) (v : V) (Q : L2.St → Hp → Prop) (env' : En), SR Z.K Z.cl g env σ I H → Rep Z.K Z.cl I d v → gf d env = some env' →
      (∀ σ', SR Z.K Z.cl g env' σ' I H → (∀ vs, (∀ i ∈ ix, i ∈ vs) → wipe σ' vs = wipe σ vs) → Q σ' H) → gt v σ H Q)
    (t2 : ST Z tt mt) (e2 : SE Z te me) : SE Z (tSum P wi gt tt te vs) (mSum vs mi gf mt me) := by
  intro g env σ I H Q d env' R hm k
  unfold mSum at hm
  obtain ⟨⟨ds, en⟩, e1, hm⟩ := Option.bind_eq_some_iff.mp hm
  dsimp only at hm
  split at hm
  · rename_i hcalm
    obtain ⟨⟨bb, enf⟩, e3, hm⟩ := Option.map_eq_some_iff.mp hm
    cases hm
    refine i2 g env σ I H _ ds en R e1 fun J I1 H1 R1 s1 wd => ?_
    obtain ⟨Gd, Y, hw, hgd, hy⟩ := wd
    refine ⟨(R1.tb P hP).2.1, fun H2 tab => ?_⟩
    have R2 := R1.tabbed hP tab
    have ww : ∀ (ws us : List Nat) (τ : L2.St), (∀ u ∈ us, u ∈ ws) → wipe (wipe τ us) ws = wipe τ ws := by
      intro ws us
      induction us with
      | nil => intro τ _; rfl
      | cons u us ih =>
        intro τ hu
        show wipe ((wipe τ us).set u none) ws = wipe τ ws
        rw [wipe_set (hu u List.mem_cons_self), ih τ fun v hv => hu v (List.mem_cons_of_mem _ hv)]
    refine gx_it (t0 := (0 : Int)) hw (fun i acc H' => ∃ en2 I2, SR Z.K Z.cl g (wipeE en2 vs) (wipe σ vs) I2 H' ∧ Same I1 I2 ∧ sumLoop gf mt me vs (ds.drop i) acc en2 = some (bb, enf)) ⟨en, I1, R2.wipe vs, Same.refl _, e3⟩ (fun i _ H' _ ⟨_, I2, R', s', _⟩ => hgd I2 H' s' R'.sub) ?_ ?_
    · rintro i acc x C C' hlt ⟨en2, I2, R', s', hm2⟩ hyld
      have hdi : ds[i]? = some ds[i] := List.getElem?_eq_getElem hlt
      rw [List.drop_eq_getElem_cons hlt] at hm2
      obtain ⟨I3, R3, s3, r3⟩ := hy i ds[i] _ _ _ I2 C x C' hdi s' R' hyld
      unfold sumLoop at hm2
      obtain ⟨en3, q1, hm2⟩ := Option.bind_eq_some_iff.mp hm2
      refine g2 _ _ _ I3 C' ds[i] x _ en3 R3 r3 q1 fun σ4 R4 w4 => ?_
      have hwp : wipe σ4 vs = wipe σ vs := by rw [w4 vs hix]; exact ww vs vs σ fun _ h => h
      refine ⟨hwp, ?_⟩
      obtain ⟨⟨b, en4⟩, q2, hm2⟩ := Option.bind_eq_some_iff.mp hm2
      refine t2 _ _ _ I3 C' _ b en4 R4 q2 fun I5 H5 R5 s5 => ?_
      have nxt : ∀ {I6 H6 : Hp} {en6 : En}, SR Z.K Z.cl g en6 σ4 I6 H6 → SR Z.K Z.cl g (wipeE en6 vs) (wipe σ vs) I6 H6 := fun {I6 H6 en6} R6 => by
        have R7 := R6.wipe vs
        rw [hwp] at R7
        exact R7
      cases b with
      | false =>
        simp only [Bool.false_eq_true, if_false] at hm2 ⊢
        exact ⟨en4, I5, nxt R5, (s'.trans s3).trans s5, hm2⟩
      | true =>
        simp only [if_true] at hm2 ⊢
        obtain ⟨⟨y, en5⟩, q3, hm2⟩ := Option.bind_eq_some_iff.mp hm2
        refine e2 _ _ _ I5 H5 _ y en5 R5 q3 fun v I6 H6 R6 s6 rv => ?_
        dsimp only at hm2
        split at hm2
        · rename_i c
          split at hm2
          · rename_i hc
            rw [Bool.and_eq_true] at hc
            exact ⟨c, rv.int_inv, hc.1, hc.2, en5, I6, nxt R6, ((s'.trans s3).trans s5).trans s6, hm2⟩
          · cases hm2
        · cases hm2
    · rintro acc C ⟨en2, I2, R', s', hm2⟩
      rw [List.drop_length] at hm2
      cases Option.some.inj hm2
      exact k _ I2 C (SR.back R1 vs hnd hcalm R' s') (s1.trans s') .int
  · cases hm
theorem ev_sum {c P : Addr} {k : Nat} {elt tg iter : Expr} {ifs : List Expr} {scope : Scope} {own : List (Str × Nat)} {p pos gpos : Pos} {mi : MI} {ix : List Nat} {gf : D → En → Option En} {mt : MT} {me : ME} (hme : Z.me = some (c, P)) (hk : k + 2 ≤ Z.k) (hgl : GlZ Z "sum") (hm : Z.mg "sum" = none)
    (hi : IV Z tg iter mi) (ok : BlkOk Z.N Z.sc scope own) (hsc : gxC scope = true) (hg : GV (ZG Z scope k) tg ix gf) (ht : CV (ZG Z scope k) ifs mt) (he : EV (ZG Z scope k) elt me) (hP : IsTab Z.cl P)
    (hnd : (own.map (·.2)).Nodup := by decide) (hix : ∀ i ∈ ix, i ∈ own.map (·.2) := by decide) (hs : ∀ env v, genFold iter env v = pure v := by intro _ _; rfl)
    (hst : ∀ env, starEach [.GeneratorExp elt [⟨tg, iter, ifs, 0⟩] scope gpos] env = (false, eval (.GeneratorExp elt [⟨tg, iter, ifs, 0⟩] scope gpos) env) :: starEach [] env := by intro _; rfl) :
    EV Z (.Call (.Name "sum" p) [.GeneratorExp elt [⟨tg, iter, ifs, 0⟩] scope gpos] [] pos) (mSum (own.map (·.2)) mi gf mt me) := by
  obtain ⟨wi, i1, i2⟩ := hi
  obtain ⟨gt, g1, g2⟩ := hg
  obtain ⟨tt, t1, t2⟩ := ht
  obtain ⟨te, e1, e2⟩ := he
  obtain ⟨n1, n2, n3⟩ := gxC_ok hsc
  exact ⟨_, fun X i => pe_sumG (k := k) i.calm i.nd (i.room.mono hk) i.gd (glOf i hgl) (by rw [i.mg]; exact hm) (i.cd c P hme).2.1 (i.cd c P hme).1 (i1 X i) (by rw [i.N, i.sc]; exact ok) n1 n2 n3 (fun A s H code fp po hr hA => g1 _ (inG i hr hA)) (fun A s H code fp po hr hA => t1 _ (inG i hr hA)) (fun A s H code fp po hr hA => e1 _ (inG i hr hA)) (hs _) (hst _),
    sum_se hP hnd hix i2 g2 t2 e2⟩
end
end Q
namespace Q
open PySem L2
section
variable {Z : Zc}
/-! ## order of texts; x is True -/
def dCmpE (p : Int → Int → Bool) (q : List Nat → List Nat → Bool) : D → D → Option D
  | .int a, .int b => some (.bl (p a b))
  | .str a, .str b => some (.bl (q a.cps.toList b.cps.toList))
  | _, _ => none
def rCmpS (q : List Nat → List Nat → Bool) : R2 := fun x y H Q => ∃ i j, x = .str i ∧ y = .str j ∧ Q (.bl (q i.cps.toList j.cps.toList)) H
theorem ok_cmpE {p : Int → Int → Bool} {q : List Nat → List Nat → Bool} : RuleOk Z (fun x y H Q => rI0 (fun i j => .bl (p i j)) x y H Q ∨ rCmpS q x y H Q) (dCmpE p q) := by
  intro I H x y z vx vy Q s rx ry h k
  unfold dCmpE at h
  split at h
  · cases h; cases rx.int; cases ry.int; exact .inl ⟨_, _, rfl, rfl, k _ .bl⟩
  · cases h; cases rx.str; cases ry.str; exact .inr ⟨_, _, rfl, rfl, k _ .bl⟩
  · cases h
abbrev dLtE := dCmpE (fun i j => decide (i < j)) (fun a b => decide (a < b))
abbrev dGtE := dCmpE (fun i j => decide (j < i)) (fun a b => decide (b < a))
theorem or_lt {X : Cx} : OpR X (compareOp .Lt) (fun x y H Q => rI0 (fun i j => .bl (decide (i < j))) x y H Q ∨ rCmpS (fun a b => decide (a < b)) x y H Q) := OpR.or op_lt op_lt_str
theorem or_gt {X : Cx} : OpR X (compareOp .Gt) (fun x y H Q => rI0 (fun i j => .bl (decide (j < i))) x y H Q ∨ rCmpS (fun a b => decide (b < a)) x y H Q) := OpR.or op_gt op_gt_str
/-! `is` of truth values, and of None -/
def rIsB (neg : Bool) : R2 := fun x y H Q => ∃ a b, x = .bl a ∧ y = .bl b ∧ Q (.bl (xor neg (a == b))) H
theorem op_isB {X : Cx} : OpR X (compareOp .Is) (rIsB false) := by
  intro pins s σ H x y v u Q I rx ry h
  obtain ⟨a, b, rfl, rfl, q⟩ := h
  cases rx
  cases ry
  cases a <;> cases b <;> exact wpAny_of_eq (by rfl) ⟨.bl _, H, I, rfl, q⟩
theorem op_notB {X : Cx} : OpR X (compareOp .IsNot) (rIsB true) := by
  intro pins s σ H x y v u Q I rx ry h
  obtain ⟨a, b, rfl, rfl, q⟩ := h
  cases rx
  cases ry
  cases a <;> cases b <;> exact wpAny_of_eq (by rfl) ⟨.bl _, H, I, rfl, q⟩
def dIsB (neg : Bool) : D → D → Option D
  | .bl a, .bl b => some (.bl (xor neg (a == b)))
  | _, _ => none
theorem ok_isB {neg : Bool} : RuleOk Z (rIsB neg) (dIsB neg) := by
  intro I H x y z vx vy Q s rx ry h k
  unfold dIsB at h
  split at h
  · cases h; cases rx.bl; cases ry.bl; exact ⟨_, _, rfl, rfl, k _ .bl⟩
  · cases h
end
end Q
namespace Q
open PySem PySem.Spec PyProof.Rows L2
/-! ## The end of a law whose defs make generators: their tables of code objects may grow -/
section
variable {P : Program} {w : World} {K : PySem.W.Frag} {mg mb : Str → Option Value} {CX : CXT} {k : Nat} {fa a : Addr} {fd : FuncData} {x : Str} {sp : Sp} {s₁ : Shared} {vs : List Value} {ns : List Int} {H : Hp} {cs : List (Addr × Addr)}
abbrev nilTab : Obj := { cls := .none, data := .fields #[] }
/-- from a heap in which the script may be told, and the tables -/
theorem law_fromT (KX : K.In s₁.heap) (hns : s₁.heap.Ns mainGlobals mg) (hb : s₁.heap.Ns builtinsNs mb) (hbb : ∀ x : Str, x ≠ "__name__" → mb x = bootBuiltins x) (hlim : s₁.heap.NoLimit) (hg : s₁.gens = #[])
    (ha : s₁.heap.get? a = some { cls := .type "list", data := .seq vs.toArray }) (hr : Room k callerA)
    (tab : ∀ p ∈ cs, s₁.heap.get? p.2 = some nilTab) (ntK : ∀ p ∈ cs, K.lookup p.2 = none) (cod : ∀ p ∈ cs, PySem.W.CodeHd s₁.heap p.1 p.2)
    (hbm : ∃ (bm : Addr) (ob : Obj), mg "__builtins__" = some (.ref bm) ∧ bm ≠ builtinsNs ∧ s₁.heap.get? bm = some ob ∧ ob.cls = .type "module" ∧ ob.dict = some builtinsNs ∧ ob.data = .plain)
    (F : ∀ base : Heap, K.In base → base.Ns mainGlobals mg → (∀ p ∈ cs, GxR.TabB base mg p.1 p.2) → FnG P w K mg base CX k fa fd [x] sp)
    (hbind : ∀ (s : Shared) (u : Value), BindsTo s fd ⟨[u], []⟩ [(x, u)]) (hT : ∀ p ∈ cs, H p.2 = some (.tbl #[])) (hO : ∀ b, H b = none ∨ b ∈ cs.map (·.2) ∨ ∃ o xs, H b = some (.frz o (.lst xs))) (hok : HOk P w H s₁.heap) (hA : ∀ b u, H b = some u → b = a ∨ b ∈ cs.map (·.2)) (hK : ∀ u, H a = some u → K.lookup a = none)
    (hsp : sp [.ref a] H (fun v _ => v = .bl true) fun _ _ _ => False) (hCX : ∀ e z, CX [] H s₁ (fun _ _ _ => False) e z → False) :
    codeAny (model P w) callerA (.call (.ref fa) ⟨[.ref a], []⟩) (LawEnds s₁) s₁ := by
  have tabAt : ∀ b, b ∈ cs.map (·.2) → s₁.heap.get? b = some nilTab := fun b q => by
    obtain ⟨p, hp, e⟩ := List.mem_map.mp q
    rw [← e]; exact tab p hp
  -- an object that is neither the script nor a table is untold
  have free : ∀ {b : Addr} {o : Obj}, s₁.heap.get? b = some o → (∀ l n, o.data ≠ .seq l n) → o.data ≠ .fields #[] → H b = none := fun {b o} e h1 h2 => by
    match q : H b with
    | none => rfl
    | some u =>
      rcases hA b u q with z | z
      · rw [z, ha] at e; cases e; exact absurd rfl (h1 _ _)
      · rw [tabAt b z] at e; cases e; exact absurd rfl h2
  have up : ∀ {b : Addr} {o : Obj}, s₁.heap.get? b = some o → (∀ l n, o.data ≠ .seq l n) → o.data ≠ .fields #[] → (hidT s₁.heap H).get? b = some o := fun e h1 h2 => hidT_get e (free e h1 h2)
  have ns2 : ∀ {b : Addr} {m : Str → Option Value}, s₁.heap.Ns b m → (hidT s₁.heap H).Ns b m := fun ⟨o, es, n, e, d, r⟩ => ⟨o, es, n, up e (fun l j z => by rw [d] at z; cases z) (fun z => by rw [d] at z; cases z), d, r⟩
  have K2 : K.In (hidT s₁.heap H) := fun b o e => hidT_get (KX b o e) (by
    match q : H b with
    | none => rfl
    | some u =>
      rcases hA b u q with z | z
      · rw [z] at e q; rw [hK u q] at e; cases e
      · obtain ⟨p, hp, z2⟩ := List.mem_map.mp z
        rw [← z2, ntK p hp] at e; cases e)
  have TB : ∀ p ∈ cs, GxR.TabB (hidT s₁.heap H) mg p.1 p.2 := fun p hp => by
    have hp2 := tab p hp
    refine ⟨?_, ?_, fun z => ?_⟩
    · obtain ⟨o, us, f1, t1, f2, g1, q1, t2, t3, e1, r1, r2, r3, r4, r5, r6, r7, r8, r9⟩ := cod p hp
      refine ⟨o, us, f1, t1, f2, g1, q1, t2, t3, up e1 (fun l j z => by rw [r2] at z; cases z) (fun z => ?_), r1, r2, r3, r4, r5, r6, r7, r8, r9⟩
      rw [r2] at z
      cases z
      simp at r3
    · obtain ⟨bm, ob, b1, b2, b3, b4, b5, b6⟩ := hbm
      refine ⟨bm, ob, b1, b2, fun z => ?_, fun z => ?_, up b3 (fun l j z => by rw [b6] at z; cases z) (fun z => by rw [b6] at z; cases z), b4, b5, b6⟩
      · obtain ⟨o, es, n, e, d, _⟩ := hns
        rw [z, e] at b3; cases b3
        rw [d] at b6; cases b6
      · rw [z, hp2] at b3; cases b3
        cases b6
    · obtain ⟨o, es, n, e, d, _⟩ := hns
      rw [z, hp2] at e; cases e
      cases d
  have E0 : Env0 P w K mg (hidT s₁.heap H) callerA [] s₁ H := {
    frames := rfl
    mod := ⟨K2, ns2 hns, ⟨mb, ns2 hb, hbb⟩, let ⟨mc, h1, h2⟩ := hlim; ⟨mc, ns2 h1, h2⟩⟩
    bs := fun b o e => of_hidT e
    bsz := Nat.le_of_eq (hidT_size _ _)
    funs := trivial
    frf := fun b hb => nomatch hb
    hok := hok
    bare := .of_eq hg }
  refine codeAny_mono ((F _ K2 (ns2 hns) TB).go hr rfl E0 (us := [.ref a]) (vs := [.ref a]) (hbind s₁ (.ref a)) (.cons rfl .nil) hsp) fun r z q => ?_
  match r, q with
  | .error e, q => exact (hCX e z q).elim
  | .ok (.ret u), ⟨v, H', os, bare, un, hok', rv, hv⟩ =>
    cases hv
    cases rv
    have keep : ∀ b o, b ∉ cs.map (·.2) → s₁.heap.get? b = some o → z.heap.get? b = some o := fun b o nb e => by
      match q : H b with
      | none => exact un.keep b o e q (fun z => nomatch z) (by simp)
      | some u =>
        rcases hO b with y | y | ⟨ob, xs, y⟩
        · rw [q] at y; cases y
        · exact absurd y nb
        · have e1 := (hok b _ y).1
          rw [e] at e1
          cases e1
          exact (hok' b _ (un.frzs b _ _ y)).1
    have grown : ∀ b, b ∈ cs.map (·.2) → ∃ p ∈ cs, b = p.2 ∧ ∃ more : Array Value, z.heap.get? b = some { cls := .none, data := .fields more } := fun b hb => by
      obtain ⟨p, hp, e⟩ := List.mem_map.mp hb
      obtain ⟨more, y⟩ := un.tbls p.2 #[] (hT p hp)
      refine ⟨p, hp, e.symm, #[] ++ more, ?_⟩
      rw [← e]
      exact hok' p.2 _ y
    refine ⟨rfl, ⟨fun b o e => ?_, fun b o e => ?_⟩, os, bare⟩
    · by_cases hb : b ∈ cs.map (·.2)
      · obtain ⟨p, hp, rfl, more, hm⟩ := grown b hb
        have e0 := tab p hp
        rw [e] at e0
        cases e0
        exact .inr (.inl ⟨((cod p hp).tab (tab p hp)).isCodeTable, rfl, #[], more, rfl, by rw [Array.empty_append]; exact hm⟩)
      · exact .inl (keep b o hb e)
    · by_cases hb : b ∈ cs.map (·.2)
      · obtain ⟨p, hp, rfl, more, hm⟩ := grown b hb
        exact ⟨_, hm⟩
      · exact ⟨o, keep b o hb e⟩
end
theorem tabIn_of {K : PySem.W.Frag} {x : Str} {f c P : Addr} {fd : FuncData} {a1 c1 : Value} {b1 d1 : Option Addr} {s1 e1 : Array (Option Value)} {vs : Array Value} (h1 : PySem.W.nsIn K mainGlobals x = some (some (.ref f))) (h2 : K.lookup f = some ⟨a1, b1, .func fd, s1⟩) (h3 : fd.code = .ref c)
    (h4 : K.lookup c = some ⟨c1, d1, .fields vs, e1⟩) (h5 : vs[11]? = some (.ref P)) : PySem.W.tabIn K x = some (c, P) := by
  unfold PySem.W.tabIn
  simp only [h1, h2, h3, h4, h5]
/-- what a law's def is handed, and what stands in its heap -/
def SpG (K : PySem.W.Frag) (cs : List (Addr × Addr)) (n : Nat) : Sp := fun vs H Q _ => ∃ (a : Addr) (ns : List Int), vs = [.ref a] ∧ (∀ p ∈ cs, GxR.TabG H p.2) ∧ (∃ J, Same J H ∧ (∀ p ∈ cs, J p.2 = none) ∧ SqL K J a (ns.map V.int)) ∧ ns.length ≤ n ∧ ∀ H', Q (.bl true) H'
/-- what k_head leaves, from the law's promise; cs: the defs that make generators -/
theorem walk_GT {l : PySem.W.OpenLaw} {n k : Nat} {q : Program} {loose : List Str} {XP : (Str → Option Value) → Heap → Prop} {YP : World → Heap → Prop} {d : DefRec} {K : Params → PySem.W.Frag} {CX : CXT} {x : Str}
    (hn : l.most = some n) (hn2 : n ≤ sizeLine) (hdf : d.params.defaults = []) (hr : Room k callerA) (hY : ∀ (w : World) (h : Heap), YP w h → (K w.params).In h)
    (F : ∀ (w : World) (mg : Str → Option Value) (fa : Addr) (h : Heap), (K w.params).In h → h.Ns mainGlobals mg → mg d.name = some (.ref fa) → ∃ (fd : FuncData) (cs : List (Addr × Addr)), (∀ (s : Shared) (u : Value), BindsTo s fd ⟨[u], []⟩ [(x, u)]) ∧
      (∀ p ∈ cs, ∃ (y : Str) (e : DefRec), (recsOf q).find? (fun r => r.name == y) = some e ∧ PySem.W.tabIn (K w.params) y = some p) ∧ PySem.W.noTabs (K w.params) = true ∧
      ∀ base : Heap, (K w.params).In base → base.Ns mainGlobals mg → (∀ p ∈ cs, GxR.TabB base mg p.1 p.2) → FnG l.prog w (K w.params) mg base CX k fa fd [x] (SpG (K w.params) cs n))
    (hCX : ∀ (H : Hp) (s : Shared) (e : Value) (z : Shared), CX [] H s (fun _ _ _ => False) e z → False) : PySem.W.WalkO q loose XP YP l.row.toRowW d [] (fun f vs => PySem.call f vs) := by
  refine Att.attach_call hn hdf fun w s₀ s₁ mg mb fa o pm cd doc a vs ns G Y _ _ _ hmg ha hints hlen hg => ?_
  have KX := hY w _ Y
  obtain ⟨fd, cs, hb, hcs, hnt, hF⟩ := F w mg fa _ KX G.T.g hmg
  have rv := vals_of_ints hints
  have hl := hints.length
  have hz : (ns.map V.int).length ≤ sizeLine := by rw [List.length_map]; omega
  have sz : vs.toArray.size ≤ sizeLine := by rw [List.size_toArray, hl]; omega
  have both : ∀ p ∈ cs, PySem.W.CodeHd s₁.heap p.1 p.2 ∧ s₁.heap.get? p.2 = some nilTab := fun p hp => by
    obtain ⟨y, e, h1, h2⟩ := hcs p hp
    exact PySem.W.tab_of G.T KX h1 h2
  have ntK : ∀ p ∈ cs, (K w.params).lookup p.2 = none := fun p hp => by
    match q : (K w.params).lookup p.2 with
    | none => rfl
    | some o =>
      have e := KX _ _ q
      rw [(both p hp).2] at e
      cases e
      have h2 := List.all_eq_true.mp hnt _ (PySem.W.mem_of_lookupK q)
      exact absurd (show false = true from h2) Bool.false_ne_true
  have ant : a ∉ cs.map (·.2) := fun q => by
    obtain ⟨p, hp, e⟩ := List.mem_map.mp q
    have h2 := (both p hp).2
    rw [e, ha] at h2
    have h3 := congrArg Obj.cls (Option.some.inj h2)
    cases h3
  have mem2 : ∀ p ∈ cs, p.2 ∈ cs.map (·.2) := fun p hp => List.mem_map.mpr ⟨p, hp, rfl⟩
  have base := fun H => law_fromT (H := H) (cs := cs) KX G.T.g G.T.b G.T.builtins G.T.nolimit hg ha hr (fun p hp => (both p hp).2) ntK (fun p hp => (both p hp).1) G.T.bmain hF hb
  have tb0 : ∀ {H : Hp}, (∀ p ∈ cs, H p.2 = some (.tbl #[])) → ∀ p ∈ cs, GxR.TabG H p.2 := fun h p hp => ⟨#[], h p hp, True.intro⟩
  match hk : (K w.params).lookup a with
  | some o =>
    have e := KX a o hk
    rw [ha] at e
    cases e
    let H : Hp := fun b => if b ∈ cs.map (·.2) then some (.tbl #[]) else none
    have hT : ∀ p ∈ cs, H p.2 = some (.tbl #[]) := fun p hp => if_pos (mem2 p hp)
    have inH : ∀ {b u}, H b = some u → b ∈ cs.map (·.2) ∧ u = .tbl #[] := fun {b u} e => by
      by_cases hb : b ∈ cs.map (·.2)
      · exact ⟨hb, (Option.some.inj ((show H b = some (.tbl #[]) from if_pos hb).symm.trans e)).symm⟩
      · rw [show H b = none from if_neg hb] at e; cases e
    refine base H hT (fun b => ?_) (fun b u e => ?_) (fun b u e => .inr (inH e).1) (fun u e => absurd (inH e).1 ant) ⟨a, ns, rfl, tb0 hT, ⟨fun _ => none, (fun b u z => by cases z), fun _ _ => rfl, .inr ⟨_, vs.toArray, _, hk, rfl, rfl, rfl, sz, by simpa using rv⟩⟩, hlen, fun _ => rfl⟩ fun e z => hCX _ _ e z
    · by_cases hb : b ∈ cs.map (·.2)
      · exact .inr (.inl hb)
      · exact .inl (if_neg hb)
    · obtain ⟨hb, rfl⟩ := inH e
      obtain ⟨p, hp, e2⟩ := List.mem_map.mp hb
      rw [← e2]
      exact (both p hp).2
  | none =>
    let so : HO := .frz { cls := .type "list", data := .seq vs.toArray } (.lst (ns.map V.int))
    let J : Hp := fun b => if b = a then some so else none
    let H : Hp := fun b => if b = a then some so else if b ∈ cs.map (·.2) then some (.tbl #[]) else none
    have Ha : H a = some so := if_pos rfl
    have hT : ∀ p ∈ cs, H p.2 = some (.tbl #[]) := fun p hp => by
      show (if p.2 = a then _ else _) = _
      rw [if_neg (fun z => ant (by rw [← z]; exact mem2 p hp)), if_pos (mem2 p hp)]
    have inH : ∀ {b u}, H b = some u → (b = a ∧ u = so) ∨ (b ∈ cs.map (·.2) ∧ u = .tbl #[]) := fun {b u} e => by
      by_cases hb : b = a
      · subst hb; rw [Ha] at e; exact .inl ⟨rfl, (Option.some.inj e).symm⟩
      · have e : (if b = a then some so else if b ∈ cs.map (·.2) then some (HO.tbl #[]) else none) = some u := e
        rw [if_neg hb] at e
        split at e
        · rename_i h2; exact .inr ⟨h2, (Option.some.inj e).symm⟩
        · cases e
    have hJ : Same J H := fun b u e => by
      by_cases hb : b = a
      · subst hb
        rw [show J b = some so from if_pos rfl] at e
        rw [Ha]; exact e
      · rw [show J b = none from if_neg hb] at e; cases e
    refine base H hT (fun b => ?_) (fun b u e => ?_) (fun b u e => (inH e).imp (·.1) (·.1)) (fun u e => hk) ⟨a, ns, rfl, tb0 hT, ⟨J, hJ, fun p hp => if_neg (fun z => ant (by rw [← z]; exact mem2 p hp)), .inl (.inr ⟨_, if_pos rfl⟩)⟩, hlen, fun _ => rfl⟩ fun e z => hCX _ _ e z
    · match q : H b with
      | none => exact .inl rfl
      | some u =>
        rcases inH q with ⟨_, rfl⟩ | ⟨h2, _⟩
        · exact .inr (.inr ⟨_, _, rfl⟩)
        · exact .inr (.inl h2)
    · rcases inH e with ⟨rfl, rfl⟩ | ⟨hb, rfl⟩
      · exact ⟨ha, hz, vs, _, rv, ha⟩
      · obtain ⟨p, hp, e2⟩ := List.mem_map.mp hb
        rw [← e2]
        exact (both p hp).2
end Q
namespace Q
open PySem PySem.Spec PyProof.Rows L2
section
variable {X : Cx} {CX : CXT} {k : Nat} {f C : Addr} {fd : FuncData} {ps : List Str} {sp : Sp} {E : XK} {x m : Str} {p pos apos : Pos} {e o : Expr} {es : List Expr} {ta : TE} {t : TA}
/-- a method call with nothing handed -/
theorem FnG.peM0 {pl : Sem Bool} (F : FnG X.prog X.w X.K X.mg X.base CX k f fd ps sp) (hr : Room k X.A) (g : Calmy X.A) (he : PE X o ta) (c : Cls X.K C) (hm : Meth X.K C m f) (hb : Binds X.K fd ps [])
    (hx : Passes CX X E)
    (ht : eval (.Call (.Attribute o m apos) [] [] pos) X.env = (do
      let ov ← eval o X.env
      standAt apos.atName
      let (f, first) ← holding [ov] (getMethod ov m pl)
      callWith pos f first (backTo pos (starEach [] X.env)) (backToKw pos (keywordEach [] X.env)))) :
    PE X (.Call (.Attribute o m apos) [] [] pos) (tMeth C m sp [] E ta tNil) :=
  ⟨fun pins s σ H Q I h => PySem.W.methodCall_KW (pl := pl) (thn (he.run pins s σ H _ I h) fun u s1 hh => by
    obtain ⟨y, H1, I1, ry, a, dx, fs, rfl, ea, l, q⟩ := hh
    cases ry
    exact getmeth_ok I1 ea c hm l (PySem.W.callWith_K0 (first := [.ref a]) I1.kIn hm.kp
      (F.runs (us := [.ref a]) (vs := [.ref a]) hr g hb hx I1 (.cons rfl .nil) (by simpa [tNil] using q)))) ht⟩
end
section
variable {Z : Zc}
theorem ev_meth0 {c : String} {mn : Str} {N : List Str} {np : Nat} {mf : MS} {o : Expr} {m : ME} {apos pos : Pos} (F : MtZ Z c mn N np mf) (ho : EV Z o m)
    (ht : ∀ env, ∃ pl : Sem Bool, eval (.Call (.Attribute o mn apos) [] [] pos) env = (do
      let ov ← eval o env
      standAt apos.atName
      let (f, first) ← holding [ov] (getMethod ov mn pl)
      callWith pos f first (backTo pos (starEach [] env)) (backToKw pos (keywordEach [] env))) := by intro _; exact ⟨_, rfl⟩) :
    EV Z (.Call (.Attribute o mn apos) [] [] pos) (mCallV N np mf (cRecv c mn m cNil)) ∧ EF Z (.Call (.Attribute o mn apos) [] [] pos) (mCallF N np mf (cRecv c mn m cNil)) := by
  obtain ⟨C, f, fd, ps, hC, h1, h2, h3, h4⟩ := F.ex
  obtain ⟨ta, o1, o2⟩ := ho
  have a2 : SG Z tNil cNil := fun g env σ I H Q as env' R hm k => by cases hm; exact k [] I H R (Same.refl _) .nil
  have pe : ∀ X, InF Z X → PE X (.Call (.Attribute o mn apos) [] [] pos) (tMeth C mn (spM Z.K Z.cl N np mf) [] E0 ta tNil) := fun X i => by
    obtain ⟨pl, hpl2⟩ := ht X.env
    exact FnG.peM0 (pl := pl) (CX := CX0) (k := Z.k) (f := f) (fd := fd) (ps := ps) (E := E0) (sp := spM Z.K Z.cl N np mf) (by rw [i.prog, i.w, i.K, i.mg, i.base]; exact h3) i.room i.gd (o1 X i) (by rw [i.K]; exact h1) (by rw [i.K]; exact h2) (by rw [i.K]; exact h4) pass0 hpl2
  have q := meth_core (mn := mn) (mf := mf) (N := N) (np := np) (ta := ta) (t := tNil) hC (recv_ok (mn := mn) (mf := mf) (N := N) (np := np) hC o2 a2)
  exact ⟨⟨_, pe, q.1⟩, ⟨_, pe, q.2⟩⟩
theorem ev_methIo0 {c : String} {mn : Str} {N : List Str} {np : Nat} {mf : MS} {i : Nat} {x : Str} {p : Pos} {apos pos : Pos} (F : MtZ Z c mn N np mf) (hN : Z.N[i]? = some x) (hv : Vis Z.sc x)
    (hd : (x == ("__debug__" : Str)) = false := by decide) (hcd : (x == ("__classdict__" : Str)) = false := by decide)
    (ht : ∀ env, ∃ pl : Sem Bool, eval (.Call (.Attribute (.Name x p) mn apos) [] [] pos) env = (do
      let ov ← eval (.Name x p) env
      standAt apos.atName
      let (f, first) ← holding [ov] (getMethod ov mn pl)
      callWith pos f first (backTo pos (starEach [] env)) (backToKw pos (keywordEach [] env))) := by intro _; exact ⟨_, rfl⟩) :
    EV Z (.Call (.Attribute (.Name x p) mn apos) [] [] pos) (mCallV N np mf (cRecvIo c mn i cNil)) ∧ EF Z (.Call (.Attribute (.Name x p) mn apos) [] [] pos) (mCallF N np mf (cRecvIo c mn i cNil)) := by
  obtain ⟨C, f, fd, ps, hC, h1, h2, h3, h4⟩ := F.ex
  have a2 : SG Z tNil cNil := fun g env σ I H Q as env' R hm k => by cases hm; exact k [] I H R (Same.refl _) .nil
  have pe : ∀ X, InF Z X → PE X (.Call (.Attribute (.Name x p) mn apos) [] [] pos) (tMeth C mn (spM Z.K Z.cl N np mf) [] E0 (tVar i) tNil) := fun X k => by
    obtain ⟨pl, hpl2⟩ := ht X.env
    exact FnG.peM0 (pl := pl) (CX := CX0) (k := Z.k) (f := f) (fd := fd) (ps := ps) (E := E0) (sp := spM Z.K Z.cl N np mf) (by rw [k.prog, k.w, k.K, k.mg, k.base]; exact h3) k.room k.gd (pe_var (by rw [k.N]; exact hN) (visOf k hv) hd hcd) (by rw [k.K]; exact h1) (by rw [k.K]; exact h2) (by rw [k.K]; exact h4) pass0 hpl2
  have q := meth_core (mn := mn) (mf := mf) (N := N) (np := np) (ta := tVar i) (t := tNil) hC (recvIo_ok (mn := mn) (mf := mf) (N := N) (np := np) hC a2)
  exact ⟨⟨_, pe, q.1⟩, ⟨_, pe, q.2⟩⟩
/-- x.f += a written number -/
def mAugF (c : String) (f : Str) (i : Nat) (j : Int) : MS := fun env => (env[i]?.bind Sl.own?).bind fun d => match dFld c f d with
  | some (.int v) => match d with
    | .obj c' ks xs => if c' = c ∧ ks.length < 1000 ∧ xs.length < 1000 then some (.nx (putS env i (.obj c (putK1 f ks) (putD1 f (.int (v + j)) ks xs)))) else none
    | _ => none
  | _ => none
theorem sv_augF {c : String} {f : Str} {i : Nat} {x : Str} {e : Expr} {j : Int} {p tpos pos : Pos} (hc : ∀ C, Z.cl c = some C → Cls Z.K C ∧ NoAttr Z.K C f) (hN : Z.N[i]? = some x) (hv : Vis Z.sc x) (h : EV Z e (mC (.int j))) (hd : (x == ("__debug__" : Str)) = false := by decide) (hcd : (x == ("__classdict__" : Str)) = false := by decide) :
    SV Z (.AugAssign (.Attribute (.Name x p) f tpos) .Add e pos) (mAugF c f i j) := by
  obtain ⟨t, q1, q2⟩ := h
  refine ⟨sFldAug Z.K (tVar i) t rAdd f, fun X k => by have q := ps_fldaug (X := X) (f := f) (tpos := tpos) (pos := pos) (op := .Add) (rd := rAdd) (pe_var (pos := p) (by rw [k.N]; exact hN) (visOf k hv) hd hcd) (q1 X k) in_add; rw [k.K] at q; exact q, fun g env σ I H D fl R hm k => ?_⟩
  unfold mAugF at hm
  cases e2 : env[i]? with
  | none => rw [e2] at hm; cases hm
  | some s =>
    rw [e2] at hm; simp only [Option.bind_some] at hm
    cases e3 : s.own? with
    | none => rw [e3] at hm; cases hm
    | some d =>
      rw [e3] at hm; simp only [Option.bind_some] at hm
      split at hm
      · rename_i v hf
        split at hm
        · rename_i c' ks xs
          split at hm
          · rename_i hcc
            obtain ⟨rfl, hk, hxl⟩ := hcc
            cases hm
            obtain ⟨a, o, h3, h4, h5, h6⟩ := own_at R e2 e3
            obtain ⟨C, dx, vs, rfl, hC, ra, hl⟩ := h5.ob_inv
            have hf : lookF ks xs f = some (.int v) := by
              have h7 : (if c' = c' then lookF ks xs f else none) = some (.int v) := hf
              rwa [if_pos rfl] at h7
            obtain ⟨u, hu, ru⟩ := lookF_rep ra hf
            cases ru.int_inv
            refine ⟨.ref a, h3, a, C, dx, _, .int v, rfl, h4, (hc C hC).1, (hc C hC).2, hu, q2 g env σ I H _ (.int j) env R rfl fun w I1 H1 R1 s1 rw1 => ?_⟩
            cases rw1.int_inv
            obtain ⟨a1, o1, h31, h41, h51, h61⟩ := own_at R1 e2 e3
            rw [h3] at h31; cases h31
            obtain ⟨C1, dx1, vs1, rfl, hC1, ra1, hl1⟩ := h51.ob_inv
            rw [hC] at hC1; cases hC1
            obtain ⟨ws, w1, w2, w3⟩ := putF_rep (f := f) (d := .int (v + j)) (v := .int (v + j)) .int ra1 hl1
            refine ⟨v, j, rfl, rfl, dx1, _, h41, by rw [List.length_zip]; omega, ?_⟩
            rw [w1]
            have R2 := R1.mutate e2 e3 h3 (.obj hC w2 w3 : ObjRep Z.K Z.cl I1 (.obj c' (putK1 f ks) (putD1 f (.int (v + j)) ks xs)) (.ins C dx1 ((putK1 f ks).zip ws)))
            have e5 : putS env i (.obj c' (putK1 f ks) (putD1 f (.int (v + j)) ks xs)) = env.set i (s.put (.obj c' (putK1 f ks) (putD1 f (.int (v + j)) ks xs))) := by unfold putS; rw [e2]
            rw [e5] at k
            exact k σ I1 _ R2 s1
          · cases hm
        · cases hm
      · cases hm
end
end Q
namespace Q
open PySem PySem.Spec PyProof.Rows L2
section
variable {Z : Zc}
/-- x += a list, x an owned list -/
def mExt (i : Nat) (e : ME) : MS := fun env => (ownL env i).bind fun _ => (e env).bind fun p => (ownL p.2 i).bind fun xs => match p.1 with
  | .lst zs => if xs.length + zs.length ≤ sizeLine then some (.nx (putS p.2 i (.lst (xs ++ zs)))) else none
  | _ => none
theorem sv_ext {i : Nat} {x : Str} {e : Expr} {m : ME} {p pos : Pos} (hN : Z.N[i]? = some x) (hv : LocZ Z x) (h : EV Z e m) : SV Z (.AugAssign (.Name x p) .Add e pos) (mExt i m) := by
  obtain ⟨t, q1, q2⟩ := h
  refine ⟨tAug i t rExt2, fun X k => ps_aug k.nd (by rw [k.N]; exact hN) (locOf k hv).1 (q1 X k) iop_ext (locOf k hv).2, fun g env σ I H D fl R hm k => ?_⟩
  unfold mExt at hm
  cases e0 : ownL env i with
  | none => rw [e0] at hm; cases hm
  | some d0 =>
    rw [e0] at hm; simp only [Option.bind_some] at hm
    cases e1 : m env with
    | none => rw [e1] at hm; cases hm
    | some r =>
      obtain ⟨y, en⟩ := r
      rw [e1] at hm; simp only [Option.bind_some] at hm
      cases e2 : ownL en i with
      | none => rw [e2] at hm; cases hm
      | some xs =>
        rw [e2] at hm; simp only [Option.bind_some] at hm
        split at hm
        · rename_i zs
          split at hm
          · rename_i hlen
            cases hm
            obtain ⟨s0, a0, vs0, h1, h2, h3, h4, _⟩ := own_list R e0
            refine ⟨.ref a0, h3, ?_⟩
            refine q2 g env σ I H _ (.lst zs) en R e1 fun v I1 H1 R1 s1 rv => ?_
            obtain ⟨s, a, vs, h5, h6, h7, h8, h9⟩ := own_list R1 e2
            rw [h3] at h7
            cases h7
            obtain ⟨b, ws, rfl, hb, rb⟩ := rv.lst_inv
            refine ⟨a0, b, vs, ws, rfl, rfl, h8, R1.sub _ _ hb, by rw [← h9.length, ← rb.length]; exact hlen, ?_⟩
            have R2 := R1.mutate h5 h6 h3 (.lst (h9.append rb))
            have e5 : putS en i (.lst (xs ++ zs)) = en.set i (s.put (.lst (xs ++ zs))) := by unfold putS; rw [h5]
            rw [e5] at k
            have e6 : σ.set i (some (.ref a0)) = σ := by
              obtain ⟨hl, e7⟩ := List.getElem?_eq_some_iff.mp h3
              rw [← e7]; exact List.set_getElem_self hl
            show D.nx (List.set σ i (some (V.ref a0))) _
            rw [e6]
            exact k σ I1 _ R2 s1
          · cases hm
        · cases hm
end
@[simp] theorem ap_Ext0 (i : Nat) (e : ME) (env : En) : mExt i e env = (ownL env i).bind fun _ => (e env).bind fun p => (ownL p.2 i).bind fun xs => match p.1 with
  | .lst zs => if xs.length + zs.length ≤ sizeLine then some (.nx (putS p.2 i (.lst (xs ++ zs)))) else none
  | _ => none := rfl
end Q
namespace Q
open Nd PySem PySem.Spec PyProof.Rows L2
/-! ### d[k], the keys tuples of numbers -/
def lookN : List (List Int) → List D → List Int → Option D
  | q :: ks, x :: xs, k => if q = k then some x else lookN ks xs k
  | _, _, _ => none
def dGetN : D → D → Option D
  | .dcn ks xs, y => (numsD y).bind fun k => lookN ks xs k
  | _, _ => none
theorem look_tri {K : PySem.W.Frag} {cl : String → Option Addr} {I : Hp} {k : List Int} {d : D} : ∀ {ks : List (List Int)} {bs : List Addr} {us : List Value} {xs : List D} {vs : List V}, ks.length = bs.length → Reps K cl I xs vs → Vals vs us → ks.length = xs.length → lookN ks xs k = some d →
    ∃ v u, valueAt (pairsH (tri ks bs us)) (nk k) = some u ∧ Rep K cl I d v ∧ RelV v u
  | [], _, _, _, _, _, _, _, _, h => by simp [lookN] at h
  | q :: ks, [], _, _, _, h, _, _, _, _ => by cases h
  | q :: ks, b :: bs, _, [], _, _, _, _, h, _ => by cases h
  | q :: ks, b :: bs, _, x :: xs, _, hb, .cons (v := v0) (vs := vs0) r1 r2, .cons (b := u) (l₂ := us') q1 q2, hl, h => by
    rw [valueAt_pairsH]
    unfold lookN at h
    by_cases e : q = k
    · rw [if_pos e] at h
      cases h
      subst e
      refine ⟨_, u, ?_, r1, q1⟩
      unfold atKey
      simp [tri]
    · rw [if_neg e] at h
      obtain ⟨v, u', h1, h2, h3⟩ := look_tri (bs := bs) (us := us') (by simpa using hb) r2 q2 (by simpa using hl) h
      refine ⟨v, u', ?_, h2, h3⟩
      rw [valueAt_pairsH] at h1
      rw [← h1]
      unfold atKey
      have : decide (nk q = nk k) = false := decide_eq_false fun z => e (nk_inj z)
      simp [tri, this]
def rNGet (K : PySem.W.Frag) : R2 := fun x y H Q => ∃ k b a c ks bs us v u, x = .ref c ∧ y = .ref b ∧ KeyAt K H k b ∧ H c = some (.ext (Raw a (entsN ks bs us))) ∧ KeysAt K H ks bs ∧ ks.length = us.length ∧ ks.Nodup ∧ valueAt (pairsH (tri ks bs us)) (nk k) = some u ∧ RelV v u ∧ Q v H
section
variable {X : Cx} {td ty : TE} {o i : Expr} {pos : Pos}
theorem pe_dgetN (hu : X.A.units + 1 + 8 < cLine) (ho : PE X o td) (hi : PE X i ty) (hs : NoSl i) : PE X (.Subscript o i pos) (tOp (rNGet X.K) td ty) := by
  refine ⟨fun pins s σ H Q I h => ?_⟩
  refine subD_of PySem.F.slot_dict_getitem.lookup hs (thn (ho.run pins s σ H _ I h) fun u s1 ⟨x, H1, I1, rx, q1⟩ => thn (hi.run pins s1 σ H1 _ I1 q1) fun iv s2 ⟨y, H2, I2, ry, q2⟩ => ?_)
  obtain ⟨k, b, a, c, ks, bs, us, v, w', rfl, rfl, h1, h2, h3, h4, h5, h6, h7, q⟩ := q2
  cases rx; cases ry
  obtain ⟨rfl, e1, e2, e3⟩ := dict_here I2 h2 h3 h4 h5
  exact ⟨e3.typeIs, getItem_keyed (kvs := pairsH (tri ks bs us)) (by show X.A.units + 1 + 8 < cLine; omega) (key_is I2 h1) ⟨_, e3, rfl⟩ h6 ⟨v, H2, I2.tok _, h7, q⟩⟩
end
section
variable {Z : Zc}
theorem ok_getN : RuleOk Z (rNGet Z.K) dGetN := by
  intro I H x y z vx vy Q s rx ry h k
  unfold dGetN at h
  split at h
  · rename_i ks xs
    obtain ⟨q, e, h⟩ := Option.bind_eq_some_iff.mp h
    obtain ⟨b, rfl, h1⟩ := ry.key s e
    obtain ⟨c, a, vs, bs, us, rfl, h2, h3, h4, h5, h6, h7⟩ := rx.dcn s
    obtain ⟨v, u, g1, g2, g3⟩ := look_tri h3.length h4 h5 h6 h
    exact ⟨q, b, a, c, ks, bs, us, v, u, rfl, rfl, h1, h2, h3, by rw [h6, h4.length, h5.length], h7, g1, g3, k _ g2⟩
  · cases h
theorem ev_dgetN {a b : Expr} {ma mb : ML} {pos : Pos} (ha : LV Z a ma) (hb : LV Z b mb) (hs : NoSl b := by exact fun _ _ => rfl) : EV Z (.Subscript a b pos) (mBin dGetN ma mb) := by
  obtain ⟨ta, a1, a2⟩ := ha
  obtain ⟨tb, b1, b2⟩ := hb
  refine ⟨tOp (rNGet Z.K) ta tb, fun X h => ?_, bin_se ok_getN a2 b2⟩
  have q := pe_dgetN (pos := pos) (X := X) (by have := h.room.units; omega) (a1 X h) (b1 X h) hs
  rw [h.K] at q
  exact q
end
end Q
namespace Q
open PySem PySem.Spec PyProof.Rows L2
section
variable {Z : Zc}
/-! int(text) -/
def dIntS : List D → Option D
  | [.str z] => (PySem.intText? z).bind fun n => if z.length ≤ 640 then some (.int n) else none
  | _ => none
def rIntS : List V → Hp → VK → Prop := fun xs H Q => ∃ a n, xs = [.str a] ∧ PySem.intText? a = some n ∧ a.length ≤ 640 ∧ Q (.int n) H
theorem cr_intS {X : Cx} : CallR X (.type "int") rIntS := call_int_str
theorem ok_intS : RuleC Z rIntS dIntS := by
  intro I H x z vs Q s rs h k
  unfold dIntS at h
  split at h
  · obtain ⟨n, h1, h⟩ := Option.bind_eq_some_iff.mp h
    split at h
    · cases h
      obtain ⟨v, rfl, r⟩ := rs.one
      cases r.str
      exact ⟨_, _, rfl, h1, by assumption, k _ .int⟩
    · cases h
  · cases h
end
@[simp] theorem intS_str (z : Str) : dIntS [.str z] = (PySem.intText? z).bind fun n => if z.length ≤ 640 then some (.int n) else none := rfl
end Q
namespace Q
open PySem L2
/-! ## Meanings reckoned -/
def W (m : MS) (env : En) (Q : Fl → Prop) : Prop := ∃ fl, m env = some fl ∧ Q fl
def sqK (b : MS) (Q : Fl → Prop) : Fl → Prop
  | .nx e => W b e Q
  | fl => Q fl
def lp (P : En → Prop) (Q : Fl → Prop) : Fl → Prop
  | .nx e => P e
  | .ct e => P e
  | .bk e => Q (.nx e)
  | .ret md d e => Q (.ret md d e)
def Rt (R : Md → D → Prop) : Fl → Prop
  | .nx _ => R .imm .non
  | .ret md d _ => R md d
  | _ => False
def RtIo (j : Nat) (R : Md → D → D → Prop) : Fl → Prop
  | .nx e => ∃ x, e[j]? = some (.io 0 x) ∧ R .imm .non x
  | .ret md d e => ∃ x, e[j]? = some (.io 0 x) ∧ R md d x
  | _ => False
def Gt {α : Type} (o : Option α) (F : α → Prop) : Prop := ∃ p, o = some p ∧ F p
@[simp] theorem Gt_some {α : Type} (p : α) (F : α → Prop) : Gt (some p) F ↔ F p := by simp [Gt]
@[simp] theorem Gt_none {α : Type} (F : α → Prop) : Gt (none : Option α) F ↔ False := by simp [Gt]
theorem Gt_iff {α : Type} (o : Option α) (F : α → Prop) : Gt o F ↔ ∃ p, o = some p ∧ F p := Iff.rfl
theorem Gt_congr {α : Type} {o o' : Option α} {F : α → Prop} (h : o = o') : Gt o F = Gt o' F := by rw [h]
theorem bind_congr1 {α β : Type} {o o' : Option α} {F : α → Option β} (h : o = o') : o.bind F = o'.bind F := by rw [h]
theorem map_congr1 {α β : Type} {o o' : Option α} {F : α → β} (h : o = o') : o.map F = o'.map F := by rw [h]
section
variable {a b : MS} {env e : En} {Q : Fl → Prop} {i : Nat} {x : ME} {c : MT} {P : En → Prop} {R : Md → D → Prop} {R2 : Md → D → D → Prop} {md : Md} {d : D} {j : Nat}
@[simp] theorem sqK_nx : sqK b Q (.nx e) ↔ W b e Q := Iff.rfl
@[simp] theorem sqK_bk : sqK b Q (.bk e) ↔ Q (.bk e) := Iff.rfl
@[simp] theorem sqK_ct : sqK b Q (.ct e) ↔ Q (.ct e) := Iff.rfl
@[simp] theorem sqK_ret : sqK b Q (.ret md d e) ↔ Q (.ret md d e) := Iff.rfl
@[simp] theorem lp_nx : lp P Q (.nx e) ↔ P e := Iff.rfl
@[simp] theorem lp_ct : lp P Q (.ct e) ↔ P e := Iff.rfl
@[simp] theorem lp_bk : lp P Q (.bk e) ↔ Q (.nx e) := Iff.rfl
@[simp] theorem lp_ret : lp P Q (.ret md d e) ↔ Q (.ret md d e) := Iff.rfl
@[simp] theorem Rt_ret : Rt R (.ret md d e) ↔ R md d := Iff.rfl
@[simp] theorem Rt_nx : Rt R (.nx e) ↔ R .imm .non := Iff.rfl
@[simp] theorem RtIo_ret : RtIo j R2 (.ret md d e) ↔ ∃ x, e[j]? = some (.io 0 x) ∧ R2 md d x := Iff.rfl
@[simp] theorem RtIo_nx : RtIo j R2 (.nx e) ↔ ∃ x, e[j]? = some (.io 0 x) ∧ R2 .imm .non x := Iff.rfl
@[simp] theorem W_seq : W (mSeq a b) env Q ↔ W a env (sqK b Q) := by
  unfold W mSeq
  constructor
  · rintro ⟨fl, h, q⟩
    obtain ⟨f1, h1, h2⟩ := Option.bind_eq_some_iff.mp h
    refine ⟨f1, h1, ?_⟩
    cases f1 with
    | nx e => exact ⟨fl, h2, q⟩
    | _ => cases h2; exact q
  · rintro ⟨fl, h, q⟩
    rw [h]
    cases fl with
    | nx e => exact q
    | _ => exact ⟨_, rfl, q⟩
@[simp] theorem W_next : W mNext env Q ↔ Q (.nx env) := by simp [W, mNext]
@[simp] theorem W_brk : W mBrk env Q ↔ Q (.bk env) := by simp [W, mBrk]
@[simp] theorem W_cnt : W mCnt env Q ↔ Q (.ct env) := by simp [W, mCnt]
@[simp] theorem W_asg : W (mAsg i x) env Q ↔ Gt (x env) fun p => i < p.2.length ∧ Q (.nx (p.2.set i (.imm p.1))) := by
  rw [Gt_iff]
  unfold W mAsg
  cases h : x env with
  | none => simp
  | some p => by_cases hl : i < p.2.length <;> simp [hl]
@[simp] theorem W_asgF : W (mAsgF i x) env Q ↔ Gt (x env) fun p => i < p.2.length ∧ Q (.nx (p.2.set i (.own p.1))) := by
  rw [Gt_iff]
  unfold W mAsgF
  cases h : x env with
  | none => simp
  | some p => by_cases hl : i < p.2.length <;> simp [hl]
@[simp] theorem W_ret : W (mRet x) env Q ↔ Gt (x env) fun p => Q (.ret .imm p.1 p.2) := by
  rw [Gt_iff]
  unfold W mRet
  cases h : x env <;> simp
@[simp] theorem W_retF : W (mRetF x) env Q ↔ Gt (x env) fun p => Q (.ret .new p.1 p.2) := by
  rw [Gt_iff]
  unfold W mRetF
  cases h : x env <;> simp
@[simp] theorem W_if : W (mIfS c a b) env Q ↔ Gt (c env) fun p => if p.1 = true then W a p.2 Q else W b p.2 Q := by
  rw [Gt_iff]
  unfold W mIfS
  cases h : c env with
  | none => simp
  | some p => cases hp : p.1 <;> simp [hp]
theorem W_mono {Q' : Fl → Prop} (h : W a env Q) (hq : ∀ fl, Q fl → Q' fl) : W a env Q' := let ⟨fl, h1, h2⟩ := h; ⟨fl, h1, hq fl h2⟩
end
@[simp] theorem ap_C (d : D) (env : En) : mC d env = some (d, env) := rfl
@[simp] theorem ap_Var (i : Nat) (env : En) : mVar i env = (match env[i]? with
  | some (.imm d) => some (d, env)
  | some (.own d) => some (d, env.set i (.imm d))
  | _ => none) := rfl
@[simp] theorem ap_lVar (i : Nat) (env : En) : lVar i env = (env[i]?.bind Sl.rd).map fun _ => (Ls.slot i, env) := rfl
@[simp] theorem ap_lFix (m : ME) (env : En) : lFix m env = (m env).map fun p => (Ls.fix p.1, p.2) := rfl
@[simp] theorem ap_Bin (f : D → D → Option D) (a b : ML) (env : En) : mBin f a b env = (a env).bind fun p => (b p.2).bind fun q => (p.1.get q.2).bind fun x => (q.1.get q.2).bind fun y => (f x y).map fun z => (z, q.2) := rfl
@[simp] theorem ap_Test (m : ME) (env : En) : mTest m env = (m env).bind fun p => match p.1 with
  | .bl b => some (b, p.2)
  | _ => none := rfl
@[simp] theorem get_fix (d : D) (env : En) : (Ls.fix d).get env = some d := rfl
@[simp] theorem get_slot (i : Nat) (env : En) : (Ls.slot i).get env = env[i]?.bind Sl.rd := rfl
@[simp] theorem rd_un : Sl.rd .un = none := rfl
@[simp] theorem rd_imm (d : D) : Sl.rd (.imm d) = some d := rfl
@[simp] theorem rd_bor (d : D) : Sl.rd (.bor d) = some d := rfl
@[simp] theorem rd_own (d : D) : Sl.rd (.own d) = some d := rfl
@[simp] theorem rd_io (k : Nat) (d : D) : Sl.rd (.io k d) = some d := rfl
@[simp] theorem own_own (d : D) : Sl.own? (.own d) = some d := rfl
@[simp] theorem own_io (k : Nat) (d : D) : Sl.own? (.io k d) = some d := rfl
@[simp] theorem put_own (d x : D) : Sl.put (.own d) x = .own x := rfl
@[simp] theorem put_io (k : Nat) (d x : D) : Sl.put (.io k d) x = .io k x := rfl
@[simp] theorem ap_And (a b : MT) (env : En) : mAnd a b env = (a env).bind fun p => if p.1 then b p.2 else some (false, p.2) := rfl
@[simp] theorem ap_Or (a b : MT) (env : En) : mOr a b env = (a env).bind fun p => if p.1 then some (true, p.2) else b p.2 := rfl
@[simp] theorem ap_Not (a : MT) (env : En) : mNot a env = (a env).map fun p => (!p.1, p.2) := rfl
@[simp] theorem ap_AndV (a b : ME) (env : En) : mAndV a b env = (mTest a env).bind fun p => if p.1 then b p.2 else some (.bl false, p.2) := rfl
@[simp] theorem ap_OrV (a b : ME) (env : En) : mOrV a b env = (mTest a env).bind fun p => if p.1 then some (.bl true, p.2) else b p.2 := rfl
@[simp] theorem ap_NotV (a : ME) (env : En) : mNotV a env = (mTest a env).map fun p => (.bl (!p.1), p.2) := rfl
@[simp] theorem ap_Tru (m : ML) (env : En) : mTru m env = (m env).bind fun p => (p.1.get p.2).bind fun d => (dTru d).map fun b => (b, p.2) := rfl
@[simp] theorem ap_aNil (env : En) : aNil env = some ([], env) := rfl
@[simp] theorem ap_aCons (a : ME) (r : En → Option (List D × En)) (env : En) : aCons a r env = (a env).bind fun p => (r p.2).map fun q => (p.1 :: q.1, q.2) := rfl
theorem sz10 : 10000 ≤ sizeLine := by decide
theorem ap_Lst (a : En → Option (List D × En)) (env : En) : mLst a env = (a env).bind fun p => if p.1.length ≤ sizeLine then some (.lst p.1, p.2) else none := rfl
theorem ap_Tup (a : En → Option (List D × En)) (env : En) : mTup a env = (a env).bind fun p => if p.1.length ≤ sizeLine then some (.tup p.1, p.2) else none := rfl
theorem small_lt {n : Nat} (h : n ≤ 10000) : n ≤ sizeLine := Nat.le_trans h sz10
theorem Lst_ok {a : En → Option (List D × En)} {env e : En} {xs : List D} (h : a env = some (xs, e)) (hl : xs.length ≤ 10000) : mLst a env = some (.lst xs, e) := by
  have h2 : xs.length ≤ sizeLine := small_lt hl
  unfold mLst; rw [h]; simp only [Option.bind_some]; rw [if_pos h2]
theorem Tup_ok {a : En → Option (List D × En)} {env e : En} {xs : List D} (h : a env = some (xs, e)) (hl : xs.length ≤ 10000) : mTup a env = some (.tup xs, e) := by
  have h2 : xs.length ≤ sizeLine := small_lt hl
  unfold mTup; rw [h]; simp only [Option.bind_some]; rw [if_pos h2]
@[simp] theorem Lst_0 (env : En) : mLst aNil env = some (.lst [], env) := Lst_ok rfl (by simp)
@[simp] theorem Lst_1 (a : ME) (env : En) : mLst (aCons a aNil) env = (a env).map fun p => (.lst [p.1], p.2) := by
  cases h : a env with
  | none => unfold mLst; simp [h]
  | some p => exact Lst_ok (xs := [p.1]) (by simp [h]) (by simp)
@[simp] theorem Lst_2 (a b : ME) (env : En) : mLst (aCons a (aCons b aNil)) env = (a env).bind fun p => (b p.2).map fun q => (.lst [p.1, q.1], q.2) := by
  cases h : a env with
  | none => unfold mLst; simp [h]
  | some p =>
    cases h2 : b p.2 with
    | none => unfold mLst; simp [h, h2]
    | some q => simp only [Option.bind_some, h2, Option.map_some]; exact Lst_ok (xs := [p.1, q.1]) (by simp [h, h2]) (by simp)
@[simp] theorem Lst_3 (a b c : ME) (env : En) : mLst (aCons a (aCons b (aCons c aNil))) env = (a env).bind fun p => (b p.2).bind fun q => (c q.2).map fun r => (.lst [p.1, q.1, r.1], r.2) := by
  cases h : a env with
  | none => unfold mLst; simp [h]
  | some p =>
    cases h2 : b p.2 with
    | none => unfold mLst; simp [h, h2]
    | some q =>
      cases h3 : c q.2 with
      | none => unfold mLst; simp [h, h2, h3]
      | some r => simp only [Option.bind_some, h2, h3, Option.map_some]; exact Lst_ok (xs := [p.1, q.1, r.1]) (by simp [h, h2, h3]) (by simp)
@[simp] theorem Tup_2 (a b : ME) (env : En) : mTup (aCons a (aCons b aNil)) env = (a env).bind fun p => (b p.2).map fun q => (.tup [p.1, q.1], q.2) := by
  cases h : a env with
  | none => unfold mTup; simp [h]
  | some p =>
    cases h2 : b p.2 with
    | none => unfold mTup; simp [h, h2]
    | some q => simp only [Option.bind_some, h2, Option.map_some]; exact Tup_ok (xs := [p.1, q.1]) (by simp [h, h2]) (by simp)
@[simp] theorem Tup_3 (a b c : ME) (env : En) : mTup (aCons a (aCons b (aCons c aNil))) env = (a env).bind fun p => (b p.2).bind fun q => (c q.2).map fun r => (.tup [p.1, q.1, r.1], r.2) := by
  cases h : a env with
  | none => unfold mTup; simp [h]
  | some p =>
    cases h2 : b p.2 with
    | none => unfold mTup; simp [h, h2]
    | some q =>
      cases h3 : c q.2 with
      | none => unfold mTup; simp [h, h2, h3]
      | some r => simp only [Option.bind_some, h2, h3, Option.map_some]; exact Tup_ok (xs := [p.1, q.1, r.1]) (by simp [h, h2, h3]) (by simp)
@[simp] theorem ap_bNil (env : En) : bNil env = some ([], env) := rfl
@[simp] theorem ap_bCons (a : ML) (r : En → Option (List Ls × En)) (env : En) : bCons a r env = (a env).bind fun p => (r p.2).map fun q => (p.1 :: q.1, q.2) := rfl
@[simp] theorem ap_Bi (f : List D → Option D) (a : En → Option (List Ls × En)) (env : En) : mBi f a env = (a env).bind fun p => (lsGet p.1 p.2).bind fun ds => (f ds).map fun z => (z, p.2) := rfl
@[simp] theorem lsGet_nil (env : En) : lsGet [] env = some [] := rfl
@[simp] theorem lsGet_cons (l : Ls) (ls : List Ls) (env : En) : lsGet (l :: ls) env = (l.get env).bind fun d => (lsGet ls env).map fun ds => d :: ds := rfl
@[simp] theorem ap_iAny (a : ME) (env : En) : iAny a env = (a env).bind fun p => (p.1.walk?).map fun xs => (xs, p.2) := rfl
@[simp] theorem ap_gN (i : Nat) (d : D) (env : En) : gN i d env = if i < env.length then some (env.set i (.imm d)) else none := rfl
theorem ap_iR1 (a : En → Option (List D × En)) (env : En) : iR1 a env = (a env).bind fun p => match p.1 with
  | [.int j] => if -(2 ^ 62) ≤ j ∧ j < 2 ^ 62 then some (rngD 0 j.toNat, p.2) else none
  | _ => none := rfl
theorem ap_iR2 (a : En → Option (List D × En)) (env : En) : iR2 a env = (a env).bind fun p => match p.1 with
  | [.int i, .int j] => if -(2 ^ 62) ≤ i ∧ i < 2 ^ 62 ∧ -(2 ^ 62) ≤ j ∧ j < 2 ^ 62 then some (rngD i (j - i).toNat, p.2) else none
  | _ => none := rfl
@[simp] theorem ap_Yes (env : En) : mYes env = some (true, env) := rfl
@[simp] theorem ap_cNil (env : En) : cNil env = some ([], env) := rfl
@[simp] theorem ap_cImm (a : ME) (r : MG) (env : En) : cImm a r env = (a env).bind fun p => (r p.2).map fun q => (.imm p.1 :: q.1, q.2) := rfl
@[simp] theorem ap_cBor (i : Nat) (r : MG) (env : En) : cBor i r env = (env[i]?.bind Sl.rd).bind fun _ => (r env).map fun q => (.bor i :: q.1, q.2) := rfl
@[simp] theorem ap_cIo (i : Nat) (r : MG) (env : En) : cIo i r env = (env[i]?.bind Sl.own?).bind fun _ => (r env).map fun q => (.io i :: q.1, q.2) := rfl
@[simp] theorem ap_Fld (c : String) (f : Str) (a : ML) (env : En) : mFld c f a env = (a env).bind fun p => (p.1.get p.2).bind fun x => (dFld c f x).map fun z => (z, p.2) := rfl
@[simp] theorem ap_oNone (env : En) : oNone env = some (none, env) := rfl
@[simp] theorem ap_oSome (a : ME) (env : En) : oSome a env = (a env).bind fun p => match p.1 with
  | .int i => some (some i, p.2)
  | _ => none := rfl
@[simp] theorem ap_Sl (f : D → Option Int → Option Int → Option D) (a : ML) (lo hi : En → Option (Option Int × En)) (env : En) : mSl f a lo hi env = (a env).bind fun p => (lo p.2).bind fun q => (hi q.2).bind fun r => (p.1.get r.2).bind fun x => (f x q.1 r.1).map fun z => (z, r.2) := rfl
theorem ap_putS (env : En) (i : Nat) (d : D) : putS env i d = (match env[i]? with
  | some s => env.set i (s.put d)
  | none => env) := rfl
theorem ap_ownL (env : En) (i : Nat) : ownL env i = (env[i]?).bind fun s => (s.own?).bind fun d => match d with
  | .lst xs => some xs
  | _ => none := rfl
section
variable {a b : MS} {env e : En} {Q : Fl → Prop} {i : Nat} {x y : ME} {c : MT}
@[simp] theorem W_app : W (mApp i x) env Q ↔ Gt (ownL env i) fun ys => Gt (x env) fun p => Gt (ownL p.2 i) fun xs => xs.length < sizeLine ∧ Q (.nx (putS p.2 i (.lst (xs ++ [p.1])))) := by
  simp only [Gt]
  unfold W mApp
  cases h : ownL env i with
  | none => simp
  | some ys =>
    cases h1 : x env with
    | none => simp
    | some p =>
      cases h2 : ownL p.2 i with
      | none => simp [h2]
      | some xs => by_cases hl : xs.length < sizeLine <;> simp [hl, h2]
@[simp] theorem W_setI : W (mSetI i x y) env Q ↔ Gt (x env) fun p => Gt (ownL p.2 i) fun ys => Gt (y p.2) fun q => Gt (ownL q.2 i) fun xs => Gt (match q.1 with | .int n => some n | _ => none) fun n => Gt (ixN xs.length n) fun k => Q (.nx (putS q.2 i (.lst (xs.set k p.1)))) := by
  have hm : ∀ (d : D) (F : Int → Prop), Gt (match d with | .int n => some n | _ => none) F ↔ ∃ n, d = .int n ∧ F n := fun d F => by cases d <;> simp
  simp only [hm]
  simp only [Gt]
  unfold W mSetI
  cases h1 : x env with
  | none => simp
  | some p =>
    cases h : ownL p.2 i with
    | none => simp [h]
    | some ys =>
      cases h2 : y p.2 with
      | none => simp [h, h2]
      | some q =>
        obtain ⟨qd, qe⟩ := q
        cases h3 : ownL qe i with
        | none => simp [h, h2, h3]
        | some xs =>
          cases qd with
          | int n =>
            cases hk : ixN xs.length n with
            | none => simp [h, h2, h3, hk]
            | some k =>
              simp only [Option.bind_some, h, h2, h3, hk, Option.map_some]
              constructor
              · rintro ⟨fl, e, q⟩
                cases e
                exact ⟨p, rfl, ys, h, (.int n, qe), h2, xs, h3, n, rfl, k, hk, q⟩
              · rintro ⟨p', e0, ys', e1, q', e2, xs', e3, n', e, k', e4, q⟩
                cases e0
                rw [h2] at e2; cases e2
                cases e
                rw [h3] at e3; cases e3
                rw [hk] at e4; cases e4
                exact ⟨_, rfl, q⟩
          | _ => simp [h, h2, h3]
@[simp] theorem W_retO : W (mRetO i) env Q ↔ (∃ d, env[i]? = some (.own d) ∧ Q (.ret .new d (env.set i .un))) ∨ ∃ d, env[i]? = some (.imm d) ∧ Q (.ret .imm d env) := by
  unfold W mRetO
  cases h : env[i]? with
  | none => simp
  | some s => cases s <;> simp
@[simp] theorem W_aug {f : Int → Int → Int} : W (mAug f i x) env Q ↔ Gt (match env[i]? with | some (.imm (.int z)) => some z | _ => none) fun z => Gt (x env) fun p => Gt (match p.1 with | .int y => some y | _ => none) fun y => i < p.2.length ∧ Q (.nx (p.2.set i (.imm (.int (f z y))))) := by
  unfold W mAug
  cases h : env[i]? with
  | none => simp
  | some s =>
    cases s with
    | imm d =>
      cases d with
      | int z =>
        cases h1 : x env with
        | none => simp
        | some p =>
          obtain ⟨pd, pe⟩ := p
          cases pd with
          | int y => by_cases hl : i < pe.length <;> simp [hl]
          | _ => simp
      | _ => simp
    | _ => simp
@[simp] theorem ap_putS2 (env : En) (i : Nat) (d : D) : putS env i d = (match env[i]? with
  | some s => env.set i (s.put d)
  | none => env) := rfl
@[simp] theorem ap_ownL2 (env : En) (i : Nat) : ownL env i = (env[i]?).bind fun s => (s.own?).bind fun d => match d with
  | .lst xs => some xs
  | _ => none := rfl
/-- a for -/
theorem W_for {it : MI} {gf : D → En → Option En} {body : MS} {ds : List D} {e0 : En} (hi : it env = some (ds, e0)) (P : Nat → En → Prop) (h0 : P 0 e0)
    (hs : ∀ i d e, ds[i]? = some d → P i e → ∃ e1, gf d e = some e1 ∧ W body e1 (lp (P (i + 1)) Q)) (hend : ∀ e, P ds.length e → Q (.nx e)) : W (mForS it gf body) env Q := by
  have key : ∀ (ds : List D) (P : Nat → En → Prop) (e0 : En), P 0 e0 → (∀ i d e, ds[i]? = some d → P i e → ∃ e1, gf d e = some e1 ∧ W body e1 (lp (P (i + 1)) Q)) → (∀ e, P ds.length e → Q (.nx e)) → ∃ fl, mFor gf body ds e0 = some fl ∧ Q fl := by
    intro ds
    induction ds with
    | nil => intro P e0 h0 _ he; exact ⟨.nx e0, rfl, he _ h0⟩
    | cons d ds ih =>
      intro P e0 h0 hs he
      obtain ⟨e1, h1, fl, h2, h3⟩ := hs 0 d e0 rfl h0
      have step : ∀ e2, P 1 e2 → ∃ fl, mFor gf body ds e2 = some fl ∧ Q fl := fun e2 hp => ih (fun i => P (i + 1)) e2 hp (fun i d' e' hd hp' => hs (i + 1) d' e' (by simpa using hd) hp') (fun e' hp' => he e' (by simpa using hp'))
      cases fl with
      | nx e2 =>
        obtain ⟨fl, h4, h5⟩ := step e2 h3
        exact ⟨fl, by simp [mFor, h1, h2, h4], h5⟩
      | ct e2 =>
        obtain ⟨fl, h4, h5⟩ := step e2 h3
        exact ⟨fl, by simp [mFor, h1, h2, h4], h5⟩
      | bk e2 => exact ⟨.nx e2, by simp [mFor, h1, h2], h3⟩
      | ret md r e2 => exact ⟨.ret md r e2, by simp [mFor, h1, h2], h3⟩
  obtain ⟨fl, h1, h2⟩ := key ds P e0 h0 hs hend
  exact ⟨fl, by simp [mForS, hi, h1], h2⟩
/-- a while: at most n turns are left -/
theorem W_wh {fu : En → Nat} (P : Nat → En → Prop) (n : Nat) (h0 : P n env) (hn : n < fu env)
    (hs : ∀ n e, P n e → ∃ q e1, c e = some (q, e1) ∧ (q = true → ∃ m, n = m + 1 ∧ W b e1 (lp (P m) Q)) ∧ (q = false → Q (.nx e1))) : W (mWh fu c b) env Q := by
  have key : ∀ (k n : Nat) (e : En), P n e → n < k → ∃ fl, mWhile c b k e = some fl ∧ Q fl := by
    intro k
    induction k with
    | zero => intro n e _ h; omega
    | succ k ih =>
      intro n e hp hn
      obtain ⟨q, e1, h1, h2, h3⟩ := hs n e hp
      cases q with
      | false => exact ⟨.nx e1, by simp [mWhile, h1], h3 rfl⟩
      | true =>
        obtain ⟨m, rfl, fl, h4, h5⟩ := h2 rfl
        cases fl with
        | nx e2 => obtain ⟨fl, h6, h7⟩ := ih m e2 h5 (by omega); exact ⟨fl, by simp [mWhile, h1, h4, h6], h7⟩
        | ct e2 => obtain ⟨fl, h6, h7⟩ := ih m e2 h5 (by omega); exact ⟨fl, by simp [mWhile, h1, h4, h6], h7⟩
        | bk e2 => exact ⟨.nx e2, by simp [mWhile, h1, h4], h5⟩
        | ret md r e2 => exact ⟨.ret md r e2, by simp [mWhile, h1, h4], h5⟩
  obtain ⟨fl, h1, h2⟩ := key (fu env) n env h0 hn
  exact ⟨fl, h1, h2⟩
end
/-- a comprehension -/
theorem lc_ok {vs : List Nat} {mi : MI} {gf : D → En → Option En} {mt : MT} {me : ME} {env e0 : En} {ds : List D} (hi : mi env = some (ds, e0)) (hc : calmAt e0 vs = true) (hl : ds.length ≤ 10000) (E : En → Prop) (P : Nat → List D → Prop) (hE : E e0) (hP : P 0 [])
    (hs : ∀ i d e acc, ds[i]? = some d → E e → P i acc → ∃ e1 b e2, gf d (wipeE e vs) = some e1 ∧ mt e1 = some (b, e2) ∧ (b = true → ∃ x e3, me e2 = some (x, e3) ∧ E e3 ∧ P (i + 1) (acc ++ [x])) ∧ (b = false → E e2 ∧ P (i + 1) acc)) :
    ∃ acc e2, mLc vs mi gf mt me env = some (.lst acc, backE e0 (wipeE e2 vs) vs) ∧ E e2 ∧ P ds.length acc := by
  have key : ∀ (ds : List D) (P : Nat → List D → Prop) (e : En) (acc : List D), acc.length + ds.length ≤ 10000 → E e → P 0 acc → (∀ i d e acc, ds[i]? = some d → E e → P i acc → ∃ e1 b e2, gf d (wipeE e vs) = some e1 ∧ mt e1 = some (b, e2) ∧ (b = true → ∃ x e3, me e2 = some (x, e3) ∧ E e3 ∧ P (i + 1) (acc ++ [x])) ∧ (b = false → E e2 ∧ P (i + 1) acc)) →
      ∃ acc' e2, lcLoop gf mt me vs ds acc e = some (acc', e2) ∧ E e2 ∧ P ds.length acc' := by
    intro ds
    induction ds with
    | nil => intro P e acc _ hE hP _; exact ⟨acc, e, rfl, hE, hP⟩
    | cons d ds ih =>
      intro P e acc hl hE hP hs
      obtain ⟨e1, b, e2, h1, h2, h3, h4⟩ := hs 0 d e acc rfl hE hP
      have step : ∀ e' acc', acc'.length ≤ acc.length + 1 → E e' → P 1 acc' → ∃ acc'' e2, lcLoop gf mt me vs ds acc' e' = some (acc'', e2) ∧ E e2 ∧ P (ds.length + 1) acc'' := fun e' acc' hl' hE' hP' =>
        ih (fun i => P (i + 1)) e' acc' (by simp at hl; omega) hE' hP' (fun i d' e'' acc'' hd he hp => hs (i + 1) d' e'' acc'' (by simpa using hd) he hp)
      cases b with
      | true =>
        obtain ⟨x, e3, h5, h6, h7⟩ := h3 rfl
        obtain ⟨acc', e4, h8, h9, h10⟩ := step e3 (acc ++ [x]) (by simp) h6 h7
        have := sz10
        exact ⟨acc', e4, by simp only [lcLoop, h1, h2, h5, Option.bind_some, if_true]; rw [if_pos (by simp at hl; omega), h8], h9, h10⟩
      | false =>
        obtain ⟨h5, h6⟩ := h4 rfl
        obtain ⟨acc', e4, h8, h9, h10⟩ := step e2 acc (by omega) h5 h6
        exact ⟨acc', e4, by simp only [lcLoop, h1, h2, Option.bind_some, Bool.false_eq_true, if_false, h8], h9, h10⟩
  obtain ⟨acc, e2, h1, h2, h3⟩ := key ds P e0 [] (by simpa using hl) hE hP hs
  exact ⟨acc, e2, by simp [mLc, hi, hc, h1], h2, h3⟩
theorem dc_ok {vs : List Nat} {mi : MI} {gf : D → En → Option En} {mt : MT} {mk mv : ME} {env e0 : En} {ds : List D} (hi : mi env = some (ds, e0)) (hc : calmAt e0 vs = true) (hl : ds.length ≤ 10000) (E : En → Prop) (P : Nat → List Key → List D → Prop) (hE : E e0) (hP : P 0 [] [])
    (hs : ∀ i d e ks xs, ds[i]? = some d → E e → xs.length ≤ i → P i ks xs → ∃ e1 b e2, gf d (wipeE e vs) = some e1 ∧ mt e1 = some (b, e2) ∧ (b = true → ∃ q e3 k r e4, mk e2 = some (q, e3) ∧ q.key? = some k ∧ mv e3 = some (r, e4) ∧ E e4 ∧ (putKD k r ks xs).length ≤ i + 1 ∧ P (i + 1) (putKK k ks) (putKD k r ks xs)) ∧ (b = false → E e2 ∧ P (i + 1) ks xs)) :
    ∃ ks xs e2, mDc vs mi gf mt mk mv env = some (.dic ks xs, backE e0 (wipeE e2 vs) vs) ∧ E e2 ∧ P ds.length ks xs := by
  have key : ∀ (ds : List D) (n : Nat) (e : En) (ks : List Key) (xs : List D), n + ds.length ≤ 10000 → xs.length ≤ n → E e → P n ks xs → (∀ i d e ks xs, ds[i]? = some d → E e → xs.length ≤ n + i → P (n + i) ks xs → ∃ e1 b e2, gf d (wipeE e vs) = some e1 ∧ mt e1 = some (b, e2) ∧ (b = true → ∃ q e3 k r e4, mk e2 = some (q, e3) ∧ q.key? = some k ∧ mv e3 = some (r, e4) ∧ E e4 ∧ (putKD k r ks xs).length ≤ n + i + 1 ∧ P (n + i + 1) (putKK k ks) (putKD k r ks xs)) ∧ (b = false → E e2 ∧ P (n + i + 1) ks xs)) →
      ∃ ks' xs' e2, dcLoop gf mt mk mv vs ds ks xs e = some (ks', xs', e2) ∧ E e2 ∧ P (n + ds.length) ks' xs' := by
    intro ds
    induction ds with
    | nil => intro n e ks xs _ _ hE hP _; exact ⟨ks, xs, e, rfl, hE, hP⟩
    | cons d ds ih =>
      intro n e ks xs hl hx hE hP hs
      obtain ⟨e1, b, e2, h1, h2, h3, h4⟩ := hs 0 d e ks xs rfl hE hx hP
      have step : ∀ e' ks' xs', xs'.length ≤ n + 1 → E e' → P (n + 1) ks' xs' → ∃ ks2 xs2 e2, dcLoop gf mt mk mv vs ds ks' xs' e' = some (ks2, xs2, e2) ∧ E e2 ∧ P (n + (d :: ds).length) ks2 xs2 := fun e' ks' xs' hx' hE' hP' => by
        have := ih (n + 1) e' ks' xs' (by simp at hl; omega) hx' hE' hP' (fun i d' e'' ks'' xs'' hd he hx'' hp => by
          have := hs (i + 1) d' e'' ks'' xs'' (by simpa using hd) he (by omega) (by rw [← Nat.add_assoc, Nat.add_right_comm]; exact hp)
          rw [← Nat.add_assoc, Nat.add_right_comm n i 1] at this
          exact this)
        rw [List.length_cons, ← Nat.add_assoc, Nat.add_right_comm]; exact this
      cases b with
      | true =>
        obtain ⟨q, e3, k, r, e4, h5, h6, h7, h8, h9, h10⟩ := h3 rfl
        obtain ⟨ks2, xs2, e5, h11, h12, h13⟩ := step e4 _ _ h9 h8 h10
        have := sz10
        exact ⟨ks2, xs2, e5, by simp only [dcLoop, h1, h2, h5, h6, h7, Option.bind_some, if_true]; rw [if_pos (by simp at hl; omega), h11], h12, h13⟩
      | false =>
        obtain ⟨h5, h6⟩ := h4 rfl
        obtain ⟨ks2, xs2, e5, h11, h12, h13⟩ := step e2 ks xs (by omega) h5 h6
        exact ⟨ks2, xs2, e5, by simp only [dcLoop, h1, h2, Option.bind_some, Bool.false_eq_true, if_false, h11], h12, h13⟩
  obtain ⟨ks, xs, e2, h1, h2, h3⟩ := key ds 0 e0 [] [] (by simpa using hl) (by simp) hE hP (fun i d e ks xs hd he hx hp => by simpa using hs i d e ks xs hd he (by simpa using hx) (by simpa using hp))
  exact ⟨ks, xs, e2, by simp [mDc, hi, hc, h1], h2, by simpa using h3⟩
/-! ### calls -/
theorem call_imm {N : List Str} {np : Nat} {mf : MS} {a : MG} {env e1 : En} {as : List Ag} {ss : List Sl} {R : Md → D → Prop} (h1 : a env = some (as, e1)) (h2 : iosOf as = []) (h3 : as.length = np) (h4 : slotsOf e1 0 as = some ss)
    (h5 : W mf (ss ++ List.replicate (N.length - ss.length) .un) (Rt R)) : ∃ md d, R md d ∧ mCallV N np mf a env = some (d, e1) ∧ (md = .new → mCallF N np mf a env = some (d, e1)) := by
  have hap : apart as = true := by unfold apart; rw [h2]; simp
  obtain ⟨fl, h6, h7⟩ := h5
  have c : ∀ md d, fl = .nx (match fl with | .nx e => e | _ => []) ∧ md = .imm ∧ d = .non ∨ (∃ e, fl = .ret md d e) → mCall N mf a env = some (md, d, e1) := by
    intro md d hc
    unfold mCall
    rw [h1]
    simp only [Option.bind_some]
    rw [if_pos hap, h4]
    simp only [Option.bind_some]
    rw [h6, h2]
    rcases hc with ⟨hc, rfl, rfl⟩ | ⟨e, rfl⟩
    · rw [hc]; rfl
    · rfl
  have fin : ∀ md d, R md d → mCall N mf a env = some (md, d, e1) → ∃ md d, R md d ∧ mCallV N np mf a env = some (d, e1) ∧ (md = .new → mCallF N np mf a env = some (d, e1)) := fun md d hr hc => by
    refine ⟨md, d, hr, ?_, fun hn => ?_⟩
    · unfold mCallV
      rw [h1, hc, if_pos (by simp [h3])]; rfl
    · unfold mCallF
      rw [h1, hc, if_pos (by simp [h3]), hn]; rfl
  cases fl with
  | nx e => exact fin _ _ h7 (c _ _ (.inl ⟨rfl, rfl, rfl⟩))
  | ret md d e => exact fin _ _ h7 (c _ _ (.inr ⟨e, rfl⟩))
  | bk e => exact h7.elim
  | ct e => exact h7.elim
theorem call_io {N : List Str} {np : Nat} {mf : MS} {a : MG} {env e1 : En} {as : List Ag} {ss : List Sl} {R : Md → D → D → Prop} {i j : Nat} (h1 : a env = some (as, e1)) (h2 : iosOf as = [i]) (hb : i ∉ borsOf as) (hj : ioPlaces 0 as = [j]) (h3 : as.length = np) (h4 : slotsOf e1 0 as = some ss)
    (h5 : W mf (ss ++ List.replicate (N.length - ss.length) .un) (RtIo j R)) : ∃ md d x, R md d x ∧ mCallV N np mf a env = some (d, putS e1 i x) ∧ (md = .new → mCallF N np mf a env = some (d, putS e1 i x)) := by
  have hap : apart as = true := by
    unfold apart; rw [h2]
    simp only [Bool.and_eq_true, List.all_eq_true, decide_eq_true_eq]
    exact ⟨by simp, fun k hk => by simp; intro z; exact hb (by rw [← z]; exact hk)⟩
  obtain ⟨fl, h6, h7⟩ := h5
  have fin : ∀ md d x, R md d x → mCall N mf a env = some (md, d, putS e1 i x) → ∃ md d x, R md d x ∧ mCallV N np mf a env = some (d, putS e1 i x) ∧ (md = .new → mCallF N np mf a env = some (d, putS e1 i x)) := fun md d x hr hc => by
    refine ⟨md, d, x, hr, ?_, fun hn => ?_⟩
    · unfold mCallV
      rw [h1, hc, if_pos (by simp [h3])]; rfl
    · unfold mCallF
      rw [h1, hc, if_pos (by simp [h3]), hn]; rfl
  have pre : ∀ md d e x, e[j]? = some (.io 0 x) → (fl = .nx e ∧ md = .imm ∧ d = .non ∨ fl = .ret md d e) → mCall N mf a env = some (md, d, putS e1 i x) := by
    intro md d e x hx hc
    unfold mCall
    rw [h1]
    simp only [Option.bind_some]
    rw [if_pos hap, h4]
    simp only [Option.bind_some]
    rw [h6, h2, hj]
    rcases hc with ⟨rfl, rfl, rfl⟩ | rfl
    · simp only [Option.bind_some, backIo, hx]; rfl
    · simp only [Option.bind_some, backIo, hx]; rfl
  cases fl with
  | nx e => obtain ⟨x, hx, hr⟩ := h7; exact fin _ _ x hr (pre _ _ e x hx (.inl ⟨rfl, rfl, rfl⟩))
  | ret md d e => obtain ⟨x, hx, hr⟩ := h7; exact fin _ _ x hr (pre _ _ e x hx (.inr rfl))
  | bk e => exact h7.elim
  | ct e => exact h7.elim
/-! ### small facts -/
@[simp] theorem rng_at (lo : Int) (n i : Nat) : (rngD lo n)[i]? = if i < n then some (.int (lo + i)) else none := by
  unfold rngD
  by_cases h : i < n <;> simp [h]
@[simp] theorem rng_len (lo : Int) (n : Nat) : (rngD lo n).length = n := by simp [rngD]
end Q
namespace Q
open PySem L2
/-! ### the plain operations on what they are asked -/
theorem atI_at {α : Type} (xs : List α) (n : Int) (h : 0 ≤ n) : atI xs n = xs[n.toNat]? := by
  unfold atI ixN
  rw [if_pos h]
  by_cases h1 : n < xs.length
  · rw [if_pos h1]; rfl
  · rw [if_neg h1, List.getElem?_eq_none (by omega)]; rfl
@[simp] theorem atI_cast {α : Type} (xs : List α) (n : Nat) : atI xs (n : Int) = xs[n]? := by rw [atI_at _ _ (by omega)]; simp
@[simp] theorem atI_0 {α : Type} (xs : List α) : atI xs 0 = xs[0]? := by rw [atI_at _ _ (by omega)]; simp
@[simp] theorem atI_1 {α : Type} (xs : List α) : atI xs 1 = xs[1]? := by rw [atI_at _ _ (by omega)]; simp
@[simp] theorem atI_2 {α : Type} (xs : List α) : atI xs 2 = xs[2]? := by rw [atI_at _ _ (by omega)]; simp
theorem ixN_cast {n k : Nat} (h : k < n) : ixN n (k : Int) = some k := by
  unfold ixN; rw [if_pos (by omega), if_pos (by omega)]; simp
@[simp] theorem ixN_1 {n : Nat} : ixN (n + 1 + 1) 1 = some 1 := ixN_cast (k := 1) (by omega)
@[simp] theorem ix_lst (xs : List D) (i : Int) : dIx (.lst xs) (.int i) = atI xs i := rfl
@[simp] theorem ix_scr (xs : List D) (i : Int) : dIx (.scr xs) (.int i) = atI xs i := rfl
@[simp] theorem ix_tup (xs : List D) (i : Int) : dIx (.tup xs) (.int i) = atI xs i := rfl
theorem ix_str (z : Str) (i : Int) : dIx (.str z) (.int i) = if z.length ≤ sizeLine then (atI z.cps.toList i).map fun c => .str ⟨#[c]⟩ else none := rfl
@[simp] theorem add_int (a b : Int) : dAdd (.int a) (.int b) = some (.int (a + b)) := rfl
@[simp] theorem add_str (a b : Str) : dAdd (.str a) (.str b) = if a.length + b.length ≤ sizeLine then some (.str (a ++ b)) else none := rfl
@[simp] theorem sub_int (a b : Int) : dSub (.int a) (.int b) = some (.int (a - b)) := rfl
theorem mul_int (a b : Int) : dMul (.int a) (.int b) = if CMul a b then some (.int (a * b)) else none := rfl
theorem mul_left {a b : Int} (h1 : -(2 ^ 64) < a) (h2 : a < 2 ^ 64) : dMul (.int a) (.int b) = some (.int (a * b)) := by rw [mul_int, if_pos (.inl ⟨h1, h2⟩)]
theorem mul_right {a b : Int} (h1 : -(2 ^ 64) < b) (h2 : b < 2 ^ 64) : dMul (.int a) (.int b) = some (.int (a * b)) := by rw [mul_int, if_pos (.inr ⟨h1, h2⟩)]
theorem mod_int {a b : Int} (h : 0 < b) : dMod (.int a) (.int b) = some (.int (a % b)) := by
  show (if 0 < b then some (D.int (a % b)) else none) = _
  rw [if_pos h]
theorem div_int {a b : Int} (h : 0 < b) (h2 : b < 1073741824) : dDiv (.int a) (.int b) = some (.int (a / b)) := by
  show (if CDiv a b then some (D.int (a / b)) else none) = _
  rw [if_pos ⟨h, h2⟩]
@[simp] theorem cmp_int (p : Int → Int → Bool) (a b : Int) : dCmp p (.int a) (.int b) = some (.bl (p a b)) := rfl
@[simp] theorem cat_lst (a b : List D) : dCat (.lst a) (.lst b) = if a.length + b.length ≤ sizeLine then some (.lst (a ++ b)) else none := rfl
@[simp] theorem is_non (neg : Bool) (x : D) : dIs neg x .non = some (.bl (if neg then !x.isNon else x.isNon)) := rfl
@[simp] theorem isNon_non : D.isNon .non = true := rfl
@[simp] theorem isNon_int (i : Int) : D.isNon (.int i) = false := rfl
@[simp] theorem isNon_lst (i : List D) : D.isNon (.lst i) = false := rfl
@[simp] theorem eqv_str (neg : Bool) (a b : Str) : dEqv neg (.str a) (.str b) = some (.bl (if neg then !decide (a = b) else decide (a = b))) := rfl
@[simp] theorem eqv_int (neg : Bool) (a b : Int) : dEqv neg (.int a) (.int b) = some (.bl (if neg then !decide (a = b) else decide (a = b))) := by
  have h1 : (SeqAt.shaped (PyData.int a) && SeqAt.shaped (PyData.int b)) = true := by rfl
  show (if (SeqAt.shaped (PyData.int a) && SeqAt.shaped (PyData.int b)) = true then some (D.bl (if neg then !PyData.eqv (.int a) (.int b) else PyData.eqv (.int a) (.int b))) else none) = _
  rw [if_pos h1]
  have : PyData.eqv (.int a) (.int b) = decide (a = b) := by simp [PyData.eqv]; rfl
  rw [this]
@[simp] theorem len_lst (xs : List D) : dLen [.lst xs] = some (.int xs.length) := rfl
@[simp] theorem len_dic (ks : List Key) (xs : List D) : dLen [.dic ks xs] = some (.int ks.length) := rfl
@[simp] theorem len_scr (xs : List D) : dLen [.scr xs] = some (.int xs.length) := rfl
@[simp] theorem len_tup (xs : List D) : dLen [.tup xs] = some (.int xs.length) := rfl
@[simp] theorem len_str (z : Str) : dLen [.str z] = if z.length ≤ sizeLine then some (.int z.length) else none := rfl
@[simp] theorem int_int (i : Int) : dInt [.int i] = some (.int i) := rfl
@[simp] theorem abs_int (i : Int) : dAbs [.int i] = some (.int (if i < 0 then -i else i)) := rfl
@[simp] theorem list_lst (xs : List D) : dList [.lst xs] = some (.lst xs) := rfl
@[simp] theorem tru_bl (b : Bool) : dTru (.bl b) = some b := rfl
@[simp] theorem walk_lst (xs : List D) : D.walk? (.lst xs) = some xs := rfl
@[simp] theorem walk_str (z : Str) : D.walk? (.str z) = some (signs z) := rfl
/-- whole numbers -/
abbrev dN (ns : List Nat) : List D := ns.map fun n => .int (n : Nat)
theorem flats_N (ns : List Nat) : flats (dN ns) = some (ns.map fun n => V.int ((n : Nat) : Int)) := by
  induction ns with
  | nil => rfl
  | cons n ns ih => simp [flats, D.flat?, ih]
theorem inV_N (n : Nat) (ns : List Nat) : inV (V.int n) (ns.map fun n => V.int ((n : Nat) : Int)) = decide (n ∈ ns) := by
  induction ns with
  | nil => simp [inV]
  | cons m ns ih =>
    unfold inV at *
    simp only [List.map_cons, List.any_cons, ih]
    have : eqV (V.int m) (V.int n) = decide (m = n) := by
      show decide ((m : Int) = (n : Int)) = _
      by_cases h : m = n
      · simp [h]
      · have : ¬ (m : Int) = n := by omega
        simp [h, this]
    rw [this]
    by_cases h : m = n
    · simp [h]
    · simp [h, Ne.symm h]
@[simp] theorem in_N (neg : Bool) (n : Nat) (ns : List Nat) : dIn neg (.int n) (.lst (dN ns)) = some (.bl (if neg then !decide (n ∈ ns) else decide (n ∈ ns))) := by
  have := inV_N n ns
  simp only [dIn, D.items?, Option.bind_some, flats_N, D.flat?, Option.map_some, this]
@[simp] theorem in_sign (neg : Bool) (c : Nat) (z : Str) : dIn neg (.str ⟨#[c]⟩) (.str z) = some (.bl (if neg then !decide (c ∈ z.cps.toList) else decide (c ∈ z.cps.toList))) := rfl
theorem ix_str_at {z : Str} {n : Nat} (hz : z.length ≤ sizeLine) (h : n < z.cps.toList.length) : dIx (.str z) (.int n) = some (.str ⟨#[z.cps.toList[n]]⟩) := by
  rw [ix_str, if_pos hz, atI_cast, List.getElem?_eq_getElem h]; rfl
@[simp] theorem ite_sp {p : Prop} [Decidable p] (a b : Bool) (e : En) : (if p then some (a, e) else some (b, e)) = some (if p then a else b, e) := by split <;> rfl
theorem W_ite {c : Prop} [Decidable c] {X Y : Prop} (hx : c → X) (hy : ¬c → Y) : if c then X else Y := by split <;> simp_all
theorem signs_at {z : Str} {i : Nat} {d : D} (h : (signs z)[i]? = some d) : ∃ c, d = .str ⟨#[c]⟩ ∧ z.cps.toList[i]? = some c := by
  unfold signs at h
  rw [List.getElem?_map] at h
  cases hc : z.cps.toList[i]? with
  | none => rw [hc] at h; cases h
  | some c => rw [hc] at h; cases h; exact ⟨c, rfl, rfl⟩
theorem len_cps (z : Str) : z.cps.toList.length = z.length := by simp [Str.length]
@[simp] theorem signs_len (z : Str) : (signs z).length = z.length := by unfold signs; rw [List.length_map, len_cps]
theorem len_app (a b : Str) : (a ++ b).length = a.length + b.length := by
  show (a.cps ++ b.cps).size = _
  rw [Array.size_append]; rfl
theorem lo62 : -((2 : Int) ^ 62) ≤ 0 := by decide
theorem hi62 : (10001 : Int) ≤ 2 ^ 62 := by decide
theorem r1_aux (c : Int → Prop) [inst : ∀ j, Decidable (c j)] (n : Int) (h : c n) (e : En) : ((some ([D.int n], e)).bind fun p => match p.1 with
  | [.int j] => if c j then some (rngD 0 j.toNat, p.2) else none
  | _ => none) = some (rngD 0 n.toNat, e) := by simp [h]
theorem r2_aux (c : Int → Int → Prop) [inst : ∀ i j, Decidable (c i j)] (k n : Int) (h : c k n) (e : En) : ((some ([D.int k, D.int n], e)).bind fun p => match p.1 with
  | [.int i, .int j] => if c i j then some (rngD i (j - i).toNat, p.2) else none
  | _ => none) = some (rngD k (n - k).toNat, e) := by simp [h]
theorem iR1_ok {a : En → Option (List D × En)} {env e : En} {n : Nat} (h : a env = some ([.int (n : Int)], e)) (hn : n ≤ 10000) : iR1 a env = some (rngD 0 n, e) := by
  have h1 : -((2 : Int) ^ 62) ≤ n := Int.le_trans lo62 (Int.natCast_nonneg n)
  have h2 : (n : Int) < 2 ^ 62 := Int.lt_of_lt_of_le (show (n : Int) < 10001 by omega) hi62
  unfold iR1; rw [h]
  have := r1_aux (fun j => -((2 : Int) ^ 62) ≤ j ∧ j < 2 ^ 62) n ⟨h1, h2⟩ e
  rw [Int.toNat_natCast] at this
  exact this
theorem iR2_ok {a : En → Option (List D × En)} {env e : En} {k n : Nat} (h : a env = some ([.int (k : Int), .int (n : Int)], e)) (hk : k ≤ 10000) (hn : n ≤ 10000) : iR2 a env = some (rngD k (n - k), e) := by
  have h1 : -((2 : Int) ^ 62) ≤ n := Int.le_trans lo62 (Int.natCast_nonneg n)
  have h2 : (n : Int) < 2 ^ 62 := Int.lt_of_lt_of_le (show (n : Int) < 10001 by omega) hi62
  have h3 : -((2 : Int) ^ 62) ≤ k := Int.le_trans lo62 (Int.natCast_nonneg k)
  have h4 : (k : Int) < 2 ^ 62 := Int.lt_of_lt_of_le (show (k : Int) < 10001 by omega) hi62
  have h5 : ((n : Int) - k).toNat = n - k := by omega
  unfold iR2; rw [h]
  have := r2_aux (fun i j => -((2 : Int) ^ 62) ≤ i ∧ i < 2 ^ 62 ∧ -((2 : Int) ^ 62) ≤ j ∧ j < 2 ^ 62) k n ⟨h3, h4, h1, h2⟩ e
  rw [h5] at this
  exact this
theorem inv (P : Nat → En → Prop) : ∃ P', P' = P := ⟨P, rfl⟩
theorem bind_some2 {α β : Type} (a : α) (f : α → Option β) : (some a).bind f = f a := by
  cases h : (some a).bind f with
  | none => rw [← h]; rfl
  | some b => rw [← h]; rfl
theorem szS {n : Nat} (h : n ≤ 10000) : n ≤ sizeLine := Nat.le_trans h sz10
theorem szL {n : Nat} (h : n < 10000) : n < sizeLine := Nat.lt_of_lt_of_le h sz10
theorem decT {p : Prop} [Decidable p] (h : p) : decide p = true := decide_eq_true h
theorem decF {p : Prop} [Decidable p] (h : ¬p) : decide p = false := decide_eq_false h
@[simp] theorem ag_imm (env : En) (n : Nat) (d : D) : (Ag.imm d).slot env n = some (.imm d) := rfl
@[simp] theorem slots_nil (env : En) (n : Nat) : slotsOf env n [] = some [] := rfl
@[simp] theorem slots_cons (env : En) (n : Nat) (a : Ag) (as : List Ag) : slotsOf env n (a :: as) = (a.slot env n).bind fun s => (slotsOf env (n + (if a.ioOf.isSome then 1 else 0)) as).map fun r => s :: r := rfl
@[simp] theorem ag_bor (env : En) (n i : Nat) : (Ag.bor i).slot env n = (match env[i]? with
    | some (.imm d) => some (.imm d)
    | some s => s.rd.map .bor
    | none => none) := rfl
@[simp] theorem ag_io (env : En) (n i : Nat) : (Ag.io i).slot env n = (env[i]?.bind Sl.own?).map fun d => .io n d := rfl
@[simp] theorem io_imm (d : D) : (Ag.imm d).ioOf = none := rfl
@[simp] theorem io_bor (i : Nat) : (Ag.bor i).ioOf = none := rfl
@[simp] theorem io_io (i : Nat) : (Ag.io i).ioOf = some i := rfl
end Q
namespace Q
open PySem L2
/-! ## What a def answers, told by its slots alone -/
def ioAt (e : En) : List Nat → Nat → Option (List D)
  | [], _ => some []
  | j :: js, n => match e[j]? with
    | some (.io n' d) => if n' = n then (ioAt e js (n + 1)).map fun ds => d :: ds else none
    | _ => none
def putAll : List Nat → List D → En → En
  | i :: is, d :: ds, env => putAll is ds (putS env i d)
  | _, _, env => env
/-- the answer, with how it is handed out, and what the changed objects are behind -/
def resM (N : List Str) (mf : MS) (ss : List Sl) (js : List Nat) : Option (Md × D × List D) := (mf (ss ++ List.replicate (N.length - ss.length) .un)).bind fun fl => match fl with
  | .nx e => (ioAt e js 0).map fun ds => (.imm, .non, ds)
  | .ret md d e => (ioAt e js 0).map fun ds => (md, d, ds)
  | _ => none
def res (N : List Str) (mf : MS) (ss : List Sl) (js : List Nat) : Option (D × List D) := (resM N mf ss js).map fun r => r.2
def resF (N : List Str) (mf : MS) (ss : List Sl) (js : List Nat) : Option (D × List D) := (resM N mf ss js).bind fun r => match r.1 with
  | .new => some r.2
  | .imm => none
theorem backIo_eq (cenv : En) : ∀ (is js : List Nat) (n : Nat) (env : En), is.length = js.length → backIo cenv n is js env = (ioAt cenv js n).map fun ds => putAll is ds env
  | [], [], n, env, _ => rfl
  | i :: is, [], n, env, h => by cases h
  | [], j :: js, n, env, h => by cases h
  | i :: is, j :: js, n, env, h => by
    unfold backIo ioAt
    cases hj : cenv[j]? with
    | none => rfl
    | some s =>
      cases s with
      | io n' d =>
        by_cases hn : n' = n
        · simp only [hn, if_true]
          rw [backIo_eq cenv is js (n + 1) _ (by simpa using h)]
          cases ioAt cenv js (n + 1) <;> rfl
        · simp only [hn, if_false]; rfl
      | _ => rfl
theorem ios_len : ∀ (as : List Ag) (n : Nat), (iosOf as).length = (ioPlaces n as).length
  | [], n => rfl
  | a :: as, n => by
    have := ios_len as (n + 1)
    unfold ioPlaces
    cases a with
    | imm d => exact this
    | bor i => exact this
    | io i => show (iosOf as).length + 1 = (ioPlaces (n + 1) as).length + 1; rw [this]
theorem mCall_res (N : List Str) (mf : MS) (a : MG) (env : En) : mCall N mf a env = (a env).bind fun p => if apart p.1 = true then (slotsOf p.2 0 p.1).bind fun ss => (resM N mf ss (ioPlaces 0 p.1)).map fun r => (r.1, r.2.1, putAll (iosOf p.1) r.2.2 p.2) else none := by
  unfold mCall resM
  cases ha : a env with
  | none => rfl
  | some p =>
    simp only [Option.bind_some]
    by_cases h : apart p.1 = true
    · rw [if_pos h, if_pos h]
      cases hs : slotsOf p.2 0 p.1 with
      | none => rfl
      | some ss =>
        simp only [Option.bind_some]
        cases hf : mf (ss ++ List.replicate (N.length - ss.length) .un) with
        | none => rfl
        | some fl =>
          cases fl with
          | nx e => simp only [Option.bind_some]; rw [backIo_eq _ _ _ _ _ (ios_len _ _)]; cases ioAt e (ioPlaces 0 p.1) 0 <;> rfl
          | ret md d e => simp only [Option.bind_some]; rw [backIo_eq _ _ _ _ _ (ios_len _ _)]; cases ioAt e (ioPlaces 0 p.1) 0 <;> rfl
          | bk e => rfl
          | ct e => rfl
    · rw [if_neg h, if_neg h]
theorem V_eq (N : List Str) (np : Nat) (mf : MS) (a : MG) (env : En) : mCallV N np mf a env = (a env).bind fun p => if p.1.length = np ∧ apart p.1 = true then (slotsOf p.2 0 p.1).bind fun ss => (res N mf ss (ioPlaces 0 p.1)).map fun r => (r.1, putAll (iosOf p.1) r.2 p.2) else none := by
  unfold mCallV
  rw [mCall_res]
  unfold res
  cases ha : a env with
  | none => simp
  | some p =>
    simp only [Option.bind_some, Option.map_some, Option.some.injEq]
    by_cases h1 : p.1.length = np
    · by_cases h2 : apart p.1 = true
      · simp only [h1, h2, if_true, and_self]
        cases hs : slotsOf p.2 0 p.1 with
        | none => rfl
        | some ss => simp only [Option.bind_some]; cases resM N mf ss (ioPlaces 0 p.1) <;> rfl
      · simp [h1, h2]
    · simp [h1]
theorem F_eq (N : List Str) (np : Nat) (mf : MS) (a : MG) (env : En) : mCallF N np mf a env = (a env).bind fun p => if p.1.length = np ∧ apart p.1 = true then (slotsOf p.2 0 p.1).bind fun ss => (resF N mf ss (ioPlaces 0 p.1)).map fun r => (r.1, putAll (iosOf p.1) r.2 p.2) else none := by
  unfold mCallF
  rw [mCall_res]
  unfold resF
  cases ha : a env with
  | none => simp
  | some p =>
    simp only [Option.bind_some, Option.map_some, Option.some.injEq]
    by_cases h1 : p.1.length = np
    · by_cases h2 : apart p.1 = true
      · simp only [h1, h2, if_true, and_self]
        cases hs : slotsOf p.2 0 p.1 with
        | none => rfl
        | some ss =>
          simp only [Option.bind_some]
          cases resM N mf ss (ioPlaces 0 p.1) with
          | none => rfl
          | some r => obtain ⟨md, d, ds⟩ := r; cases md <;> rfl
      · simp [h1, h2]
    · simp [h1]
/-! ### from W to the answer -/
def RtA (js : List Nat) (R : Md → D → List D → Prop) : Fl → Prop
  | .nx e => Gt (ioAt e js 0) fun ds => R .imm .non ds
  | .ret md d e => Gt (ioAt e js 0) fun ds => R md d ds
  | _ => False
@[simp] theorem RtA_nx (js : List Nat) (R : Md → D → List D → Prop) (e : En) : RtA js R (.nx e) ↔ Gt (ioAt e js 0) fun ds => R .imm .non ds := Iff.rfl
@[simp] theorem RtA_ret (js : List Nat) (R : Md → D → List D → Prop) (md : Md) (d : D) (e : En) : RtA js R (.ret md d e) ↔ Gt (ioAt e js 0) fun ds => R md d ds := Iff.rfl
@[simp] theorem ioAt_nil (e : En) (n : Nat) : ioAt e [] n = some [] := rfl
@[simp] theorem ioAt_cons (e : En) (j n : Nat) (js : List Nat) : ioAt e (j :: js) n = (e[j]?).bind fun s => match s with
    | .io n' d => if n' = n then (ioAt e js (n + 1)).map fun ds => d :: ds else none
    | _ => none := by
  rw [ioAt]
  cases e[j]? with
  | none => rfl
  | some s => cases s <;> rfl
theorem resM_of {N : List Str} {mf : MS} {ss : List Sl} {js : List Nat} {R : Md → D → List D → Prop} (h : W mf (ss ++ List.replicate (N.length - ss.length) .un) (RtA js R)) : ∃ md d ds, R md d ds ∧ resM N mf ss js = some (md, d, ds) := by
  obtain ⟨fl, h1, h2⟩ := h
  unfold resM
  rw [h1]
  cases fl with
  | nx e => obtain ⟨ds, q, r⟩ := h2; exact ⟨_, _, ds, r, by simp only [Option.bind_some]; rw [q]; rfl⟩
  | ret md d e => obtain ⟨ds, q, r⟩ := h2; exact ⟨_, _, ds, r, by simp only [Option.bind_some]; rw [q]; rfl⟩
  | bk e => exact h2.elim
  | ct e => exact h2.elim
theorem res_of {N : List Str} {mf : MS} {ss : List Sl} {js : List Nat} {R : D → List D → Prop} (h : W mf (ss ++ List.replicate (N.length - ss.length) .un) (RtA js fun _ d ds => R d ds)) : ∃ d ds, R d ds ∧ res N mf ss js = some (d, ds) := by
  obtain ⟨md, d, ds, r, q⟩ := resM_of h
  exact ⟨d, ds, r, by unfold res; rw [q]; rfl⟩
theorem resF_of {N : List Str} {mf : MS} {ss : List Sl} {js : List Nat} {R : D → List D → Prop} (h : W mf (ss ++ List.replicate (N.length - ss.length) .un) (RtA js fun md d ds => md = .new ∧ R d ds)) : ∃ d ds, R d ds ∧ resF N mf ss js = some (d, ds) := by
  obtain ⟨md, d, ds, ⟨rfl, r⟩, q⟩ := resM_of h
  exact ⟨d, ds, r, by unfold resF; rw [q]; rfl⟩
theorem res_eq {N : List Str} {mf : MS} {ss : List Sl} {js : List Nat} {x : D} {xs : List D} (h : W mf (ss ++ List.replicate (N.length - ss.length) .un) (RtA js fun _ d ds => d = x ∧ ds = xs)) : res N mf ss js = some (x, xs) := by
  obtain ⟨d, ds, ⟨rfl, rfl⟩, q⟩ := res_of h
  exact q
theorem resF_eq {N : List Str} {mf : MS} {ss : List Sl} {js : List Nat} {x : D} {xs : List D} (h : W mf (ss ++ List.replicate (N.length - ss.length) .un) (RtA js fun md d ds => md = .new ∧ d = x ∧ ds = xs)) : resF N mf ss js = some (x, xs) := by
  obtain ⟨d, ds, ⟨rfl, rfl⟩, q⟩ := resF_of h
  exact q
/-! ### the arguments -/
@[simp] theorem apart_nil : apart [] = true := rfl
@[simp] theorem ios_nil : iosOf [] = [] := rfl
@[simp] theorem ios_imm (d : D) (as : List Ag) : iosOf (.imm d :: as) = iosOf as := rfl
@[simp] theorem ios_bor (i : Nat) (as : List Ag) : iosOf (.bor i :: as) = iosOf as := rfl
@[simp] theorem ios_io (i : Nat) (as : List Ag) : iosOf (.io i :: as) = i :: iosOf as := rfl
@[simp] theorem bors_nil : borsOf [] = [] := rfl
@[simp] theorem bors_imm (d : D) (as : List Ag) : borsOf (.imm d :: as) = borsOf as := rfl
@[simp] theorem bors_bor (i : Nat) (as : List Ag) : borsOf (.bor i :: as) = i :: borsOf as := rfl
@[simp] theorem bors_io (i : Nat) (as : List Ag) : borsOf (.io i :: as) = borsOf as := rfl
@[simp] theorem iop_nil (n : Nat) : ioPlaces n [] = [] := rfl
@[simp] theorem iop_imm (n : Nat) (d : D) (as : List Ag) : ioPlaces n (.imm d :: as) = ioPlaces (n + 1) as := rfl
@[simp] theorem iop_bor (n i : Nat) (as : List Ag) : ioPlaces n (.bor i :: as) = ioPlaces (n + 1) as := rfl
@[simp] theorem iop_io (n i : Nat) (as : List Ag) : ioPlaces n (.io i :: as) = n :: ioPlaces (n + 1) as := rfl
@[simp] theorem apart_imm (d : D) (as : List Ag) : apart (.imm d :: as) = apart as := rfl
@[simp] theorem apart_bor (i : Nat) (as : List Ag) : apart (.bor i :: as) = (decide (i ∉ iosOf as) && apart as) := by
  unfold apart
  rw [Bool.eq_iff_iff]
  simp only [ios_bor, bors_bor, List.all_cons, Bool.and_eq_true]
  constructor
  · rintro ⟨h1, h2, h3⟩; exact ⟨h2, h1, h3⟩
  · rintro ⟨h2, h1, h3⟩; exact ⟨h1, h2, h3⟩
@[simp] theorem apart_io (i : Nat) (as : List Ag) : apart (.io i :: as) = (decide (i ∉ iosOf as) && (decide (i ∉ borsOf as) && apart as)) := by
  unfold apart
  simp only [ios_io, bors_io]
  rw [Bool.eq_iff_iff]
  simp only [Bool.and_eq_true, decide_eq_true_eq, List.nodup_cons, List.all_eq_true, List.mem_cons, not_or]
  constructor
  · rintro ⟨⟨h1, h2⟩, h3⟩
    exact ⟨h1, fun z => (h3 i z).1 rfl, h2, fun k hk => (h3 k hk).2⟩
  · rintro ⟨h1, h2, h3, h4⟩
    exact ⟨⟨h1, h3⟩, fun k hk => ⟨fun z => h2 (z ▸ hk), h4 k hk⟩⟩
@[simp] theorem putAll_nil (env : En) (ds : List D) : putAll [] ds env = env := by cases ds <;> rfl
@[simp] theorem putAll_cons (i : Nat) (is : List Nat) (d : D) (ds : List D) (env : En) : putAll (i :: is) (d :: ds) env = putAll is ds (putS env i d) := rfl
@[simp] theorem ap_Neg (a : ME) (env : En) : mNeg a env = (a env).bind fun p => match p.1 with
  | .int i => some (.int (-i), p.2)
  | _ => none := rfl
/-! ### more statements -/
theorem ex_bind {α : Type} {o : Option α} {f : α → Option Fl} {Q : Fl → Prop} : (∃ fl, o.bind f = some fl ∧ Q fl) ↔ Gt o fun a => ∃ fl, f a = some fl ∧ Q fl := by
  cases o <;> simp [Gt]
theorem ex_ite {c : Prop} [Decidable c] {x : Fl} {Q : Fl → Prop} : (∃ fl, (if c then some x else none) = some fl ∧ Q fl) ↔ c ∧ Q x := by
  by_cases h : c <;> simp [h]
@[simp] theorem W_setD {i : Nat} {x y : ME} {env : En} {Q : Fl → Prop} : W (mSetD i x y) env Q ↔ Gt (x env) fun p => Gt (ownD p.2 i) fun _ => Gt (y p.2) fun q => Gt (ownD q.2 i) fun kx => Gt (q.1.key?) fun k => kx.2.length < sizeLine ∧ Q (.nx (putS q.2 i (.dic (putKK k kx.1) (putKD k p.1 kx.1 kx.2)))) := by
  simp only [W, mSetD, ex_bind, ex_ite]
@[simp] theorem W_setN {i : Nat} {x y : ME} {env : En} {Q : Fl → Prop} : W (mSetN i x y) env Q ↔ Gt (x env) fun p => Gt (ownN p.2 i) fun _ => Gt (y p.2) fun q => Gt (ownN q.2 i) fun kx => Gt (numsD q.1) fun k => kx.2.length < sizeLine ∧ Q (.nx (putS q.2 i (.dcn (putN k kx.1) (putX k p.1 kx.1 kx.2)))) := by
  simp only [W, mSetN, ex_bind, ex_ite]
@[simp] theorem ap_ownD (env : En) (i : Nat) : ownD env i = (env[i]?).bind fun s => (s.own?).bind fun d => match d with
  | .dic ks xs => some (ks, xs)
  | _ => none := rfl
@[simp] theorem ap_ownN (env : En) (i : Nat) : ownN env i = (env[i]?).bind fun s => (s.own?).bind fun d => match d with
  | .dcn ks xs => some (ks, xs)
  | _ => none := rfl
@[simp] theorem key_int (i : Int) : D.key? (.int i) = some (.inl i) := rfl
/-! ### texts that data shows -/
theorem repr_ok {x : D} {p : PyData} (h : toP x = some p) (h2 : PyOk p = true) : dRepr [x] = some (.str p.shown) := by
  unfold dRepr
  simp only [h, Option.bind_some, h2, if_true]
end Q
namespace Q
open PySem L2
/-! ## any, all, sum reckoned -/
/-- any (stop: true), all (stop: false) over a walk whose i-th item answers p i -/
theorem gx_ok {stop : Bool} {vs : List Nat} {mi : MI} {gf : D → En → Option En} {mt : MT} {me : ME} {env e0 : En} {ds : List D} (hi : mi env = some (ds, e0)) (hc : calmAt e0 vs = true) (p : Nat → Bool) (E : En → Prop) (hE : E e0)
    (hs : ∀ i d e, ds[i]? = some d → E e → ∃ e1 b e2, gf d (wipeE e vs) = some e1 ∧ mt e1 = some (b, e2) ∧ (b = true → ∃ e3, me e2 = some (.bl (p i), e3) ∧ E e3) ∧ (b = false → E e2 ∧ p i = !stop)) :
    ∃ e2, mGx stop vs mi gf mt me env = some (.bl (if ∃ i, i < ds.length ∧ p i = stop then stop else !stop), backE e0 (wipeE e2 vs) vs) ∧ E e2 := by
  have key : ∀ (ds : List D) (p : Nat → Bool) (e : En), E e → (∀ i d e, ds[i]? = some d → E e → ∃ e1 b e2, gf d (wipeE e vs) = some e1 ∧ mt e1 = some (b, e2) ∧ (b = true → ∃ e3, me e2 = some (.bl (p i), e3) ∧ E e3) ∧ (b = false → E e2 ∧ p i = !stop)) →
      ∃ e2, gxLoop stop gf mt me vs ds e = some (if ∃ i, i < ds.length ∧ p i = stop then stop else !stop, e2) ∧ E e2 := by
    intro ds
    induction ds with
    | nil => intro p e hE _; exact ⟨e, by simp [gxLoop], hE⟩
    | cons d ds ih =>
      intro p e hE hs
      obtain ⟨e1, b, e2, h1, h2, h3, h4⟩ := hs 0 d e rfl hE
      have step : ∀ e', E e' → p 0 ≠ stop → ∃ e2, gxLoop stop gf mt me vs ds e' = some (if ∃ i, i < (d :: ds).length ∧ p i = stop then stop else !stop, e2) ∧ E e2 := fun e' hE' hp => by
        obtain ⟨e4, q1, q2⟩ := ih (fun i => p (i + 1)) e' hE' fun i d' e'' hd he => hs (i + 1) d' e'' (by simpa using hd) he
        refine ⟨e4, ?_, q2⟩
        rw [q1]
        have : (∃ i, i < ds.length ∧ p (i + 1) = stop) ↔ ∃ i, i < (d :: ds).length ∧ p i = stop := by
          constructor
          · rintro ⟨i, a, b⟩; exact ⟨i + 1, by simpa using a, b⟩
          · rintro ⟨i, a, b⟩
            cases i with
            | zero => exact absurd b hp
            | succ i => exact ⟨i, by simpa using a, b⟩
        simp only [this]
      cases b with
      | true =>
        obtain ⟨e3, h5, h6⟩ := h3 rfl
        by_cases hp : p 0 = stop
        · refine ⟨e3, ?_, h6⟩
          simp only [gxLoop, h1, h2, h5, Option.bind_some, if_true, hp]
          rw [if_pos ⟨0, by simp, hp⟩]
        · obtain ⟨e4, q1, q2⟩ := step e3 h6 hp
          exact ⟨e4, by simp only [gxLoop, h1, h2, h5, Option.bind_some, if_true]; rw [if_neg hp, q1], q2⟩
      | false =>
        obtain ⟨h5, h6⟩ := h4 rfl
        obtain ⟨e4, q1, q2⟩ := step e2 h5 (by rw [h6]; cases stop <;> simp)
        exact ⟨e4, by simp only [gxLoop, h1, h2, Option.bind_some, Bool.false_eq_true, if_false]; rw [q1], q2⟩
  obtain ⟨e2, h1, h2⟩ := key ds p e0 hE hs
  exact ⟨e2, by simp only [mGx, hi, Option.bind_some, hc, if_true, h1, Option.map_some], h2⟩
/-- sum over a walk whose i-th item answers p i -/
theorem sum_ok {vs : List Nat} {mi : MI} {gf : D → En → Option En} {mt : MT} {me : ME} {env e0 : En} {ds : List D} (hi : mi env = some (ds, e0)) (hc : calmAt e0 vs = true) (p : Nat → Nat) (hl : ds.length ≤ 10000) (hp : ∀ i, p i ≤ 10000) (E : En → Prop) (hE : E e0)
    (hs : ∀ i d e, ds[i]? = some d → E e → ∃ e1 e2 e3, gf d (wipeE e vs) = some e1 ∧ mt e1 = some (true, e2) ∧ me e2 = some (.int (p i), e3) ∧ E e3) :
    ∃ e2, mSum vs mi gf mt me env = some (.int (((List.range ds.length).map p).sum : Nat), backE e0 (wipeE e2 vs) vs) ∧ E e2 := by
  have key : ∀ (ds : List D) (p : Nat → Nat) (acc : Nat) (e : En), (∀ i, p i ≤ 10000) → acc + ds.length * 10000 ≤ 100000000 → E e → (∀ i d e, ds[i]? = some d → E e → ∃ e1 e2 e3, gf d (wipeE e vs) = some e1 ∧ mt e1 = some (true, e2) ∧ me e2 = some (.int (p i), e3) ∧ E e3) →
      ∃ e2, sumLoop gf mt me vs ds acc e = some (((acc + ((List.range ds.length).map p).sum : Nat) : Int), e2) ∧ E e2 := by
    intro ds
    induction ds with
    | nil => intro p acc e _ _ hE _; exact ⟨e, by simp [sumLoop], hE⟩
    | cons d ds ih =>
      intro p acc e hp hacc hE hs
      obtain ⟨e1, e2, e3, h1, h2, h3, h4⟩ := hs 0 d e rfl hE
      simp only [List.length_cons] at hacc
      have hp0 := hp 0
      obtain ⟨e4, q1, q2⟩ := ih (fun i => p (i + 1)) (acc + p 0) e3 (fun i => hp (i + 1)) (by omega) h4 fun i d' e'' hd he => hs (i + 1) d' e'' (by simpa using hd) he
      refine ⟨e4, ?_, q2⟩
      have f1 : smallI (p 0 : Nat) = true := by unfold smallI; simp only [Bool.and_eq_true, decide_eq_true_eq]; omega
      have f2 : smallI ((acc : Int) + (p 0 : Nat)) = true := by unfold smallI; simp only [Bool.and_eq_true, decide_eq_true_eq]; omega
      simp only [sumLoop, h1, h2, h3, Option.bind_some, if_true, f1, f2, Bool.and_self]
      have e5 : ((acc : Int) + (p 0 : Nat)) = ((acc + p 0 : Nat) : Int) := by omega
      rw [e5, q1]
      have e6 : acc + p 0 + ((List.range ds.length).map fun i => p (i + 1)).sum = acc + ((List.range (d :: ds).length).map p).sum := by
        rw [List.length_cons, List.range_succ_eq_map, List.map_cons, List.sum_cons, List.map_map]
        simp only [Function.comp_def, Nat.succ_eq_add_one]
        omega
      rw [e6]
  obtain ⟨e2, h1, h2⟩ := key ds p 0 e0 hp (by omega) hE hs
  rw [Nat.zero_add] at h1
  exact ⟨e2, by simp only [mSum, hi, Option.bind_some, hc, if_true]; rw [show (0 : Int) = ((0 : Nat) : Int) from rfl, h1]; rfl, h2⟩
@[simp] theorem gT_tup (n : Nat) (r : List D → En → Option En) (xs : List D) (env : En) : gT n r (.tup xs) env = if xs.length = n then r xs env else none := rfl
@[simp] theorem gs_nil (env : En) : gsNil [] env = some env := rfl
@[simp] theorem gs_cons (f : D → En → Option En) (r : List D → En → Option En) (d : D) (ds : List D) (env : En) : gsCons f r (d :: ds) env = (f d env).bind fun e => r ds e := rfl
@[simp] theorem ap_iEnS (a : En → Option (List D × En)) (env : En) : iEnS a env = (a env).bind fun p => match p.1 with
  | [.str z] => some (enumD 0 (signs z), p.2)
  | _ => none := rfl
@[simp] theorem ap_Join (a : ME) (b : ML) (env : En) : mJoin a b env = (a env).bind fun p => (b p.2).bind fun q => match p.1 with
  | .str x => (q.1.get q.2).bind fun d => (fJoin x d).map fun z => (z, q.2)
  | _ => none := rfl
@[simp] theorem ap_Chain (f f' : D → D → Option D) (a b c : ML) (env : En) : mChain f f' a b c env = (a env).bind fun p => (b p.2).bind fun q => (p.1.get q.2).bind fun x => (q.1.get q.2).bind fun y => (f x y).bind fun z => match z with
  | .bl true => (c q.2).bind fun r => (q.1.get r.2).bind fun y => (r.1.get r.2).bind fun w => (f' y w).map fun z => (z, r.2)
  | .bl false => some (.bl false, q.2)
  | _ => none := rfl
@[simp] theorem isB_bl (neg a b : Bool) : dIsB neg (.bl a) (.bl b) = some (.bl (xor neg (a == b))) := rfl
theorem W_more {m : MS} {e : En} {A B : Fl → Prop} (h : W m e A) (k : ∀ fl, A fl → B fl) : W m e B := let ⟨fl, h1, h2⟩ := h; ⟨fl, h1, k fl h2⟩
theorem rtio_res1 {N : List Str} {mf : MS} {ss : List Sl} {j : Nat} {R : Md → D → D → Prop} (h : W mf (ss ++ List.replicate (N.length - ss.length) .un) (RtIo j R)) : ∃ md d x, R md d x ∧ res N mf ss [j] = some (d, [x]) := by
  obtain ⟨d, ds, ⟨md, x, hr, rfl⟩, h2⟩ := res_of (N := N) (js := [j]) (ss := ss) (R := fun d ds => ∃ md x, R md d x ∧ ds = [x]) (W_more h fun fl hf => by
    cases fl with
    | nx e => obtain ⟨x, hx, hr⟩ := hf; exact ⟨[x], by simp [hx], .imm, x, hr, rfl⟩
    | ret md d e => obtain ⟨x, hx, hr⟩ := hf; exact ⟨[x], by simp [hx], md, x, hr, rfl⟩
    | bk e => exact hf
    | ct e => exact hf)
  exact ⟨md, d, x, hr, h2⟩
theorem rt_res1 {N : List Str} {mf : MS} {ss : List Sl} {R : Md → D → Prop} (h : W mf (ss ++ List.replicate (N.length - ss.length) .un) (Rt R)) : ∃ md d, R md d ∧ res N mf ss [] = some (d, []) := by
  obtain ⟨d, ds, ⟨md, hr, rfl⟩, h2⟩ := res_of (N := N) (js := []) (ss := ss) (R := fun d ds => ∃ md, R md d ∧ ds = []) (W_more h fun fl hf => by
    cases fl with
    | nx e => exact ⟨[], by simp, .imm, hf, rfl⟩
    | ret md d e => exact ⟨[], by simp, md, hf, rfl⟩
    | bk e => exact hf
    | ct e => exact hf)
  exact ⟨md, d, hr, h2⟩
end Q
namespace Q
open PySem L2
/-! ## Objects with fields, reckoned -/
def setF (c : String) (f : Str) (v : D) : D → Option D
  | .obj c' ks xs => if c' = c ∧ ks.length < 1000 ∧ xs.length < 1000 then some (.obj c (putK1 f ks) (putD1 f v ks xs)) else none
  | _ => none
section
variable {env e : En} {Q : Fl → Prop} {i : Nat} {x : ME} {c : String} {f : Str}
@[simp] theorem W_setF : W (mSetF c f i x) env Q ↔ Gt (x env) fun p => Gt (p.2[i]?.bind Sl.own?) fun d => Gt (setF c f p.1 d) fun z => Q (.nx (putS p.2 i z)) := by
  simp only [Gt]
  unfold W mSetF setF
  cases h1 : x env with
  | none => simp
  | some p =>
    cases h2 : p.2[i]?.bind Sl.own? with
    | none => simp [h2]
    | some d =>
      cases d with
      | obj c' ks xs => by_cases hl : c' = c ∧ ks.length < 1000 ∧ xs.length < 1000 <;> simp [hl, h2]
      | _ => simp [h2]
def augF (c : String) (f : Str) (j : Int) (d : D) : Option D := (dFld c f d).bind fun v => match v with
  | .int v => setF c f (.int (v + j)) d
  | _ => none
@[simp] theorem W_augF {j : Int} : W (mAugF c f i j) env Q ↔ Gt (env[i]?.bind Sl.own?) fun d => Gt (augF c f j d) fun z => Q (.nx (putS env i z)) := by
  simp only [Gt]
  unfold W mAugF augF setF
  cases h2 : env[i]?.bind Sl.own? with
  | none => simp
  | some d =>
    cases h3 : dFld c f d with
    | none => simp [h3]
    | some v =>
      cases v with
      | int v =>
        cases d with
        | obj c' ks xs =>
          by_cases hl : c' = c ∧ ks.length < 1000 ∧ xs.length < 1000
          · obtain ⟨rfl, a, b⟩ := hl
            simp [h3, a, b]
          · simp [hl, h3]
        | _ => simp [h3]
      | _ => simp [h3]
@[simp] theorem Q_asgG {gf : D → En → Option En} : W (mAsgG gf x) env Q ↔ Gt (x env) fun p => Gt (gf p.1 p.2) fun e => Q (.nx e) := by
  unfold W mAsgG Gt
  constructor
  · rintro ⟨fl, h, q⟩
    obtain ⟨p, h1, h2⟩ := Option.bind_eq_some_iff.mp h
    obtain ⟨e, h3, rfl⟩ := Option.map_eq_some_iff.mp h2
    exact ⟨p, h1, e, h3, q⟩
  · rintro ⟨p, h1, e, h3, q⟩
    exact ⟨.nx e, by rw [h1]; simp [h3], q⟩
@[simp] theorem Q_drop : W (mDrop x) env Q ↔ Gt (x env) fun p => Q (.nx p.2) := by
  rw [Gt_iff]
  unfold W mDrop
  cases h : x env <;> simp
end
@[simp] theorem ap_RecvIo (c : String) (m : Str) (i : Nat) (r : MG) (env : En) : cRecvIo c m i r env = (env[i]?.bind Sl.own?).bind fun d => if isObj c m d = true then (r env).map fun q => (.io i :: q.1, q.2) else none := rfl
@[simp] theorem ap_Recv (c : String) (m : Str) (a : ME) (r : MG) (env : En) : cRecv c m a r env = (a env).bind fun p => if isObj c m p.1 = true then (r p.2).map fun q => (.imm p.1 :: q.1, q.2) else none := rfl
theorem eqv_tup_same {xs : List D} {ps : List PyData} (neg : Bool) (ht : toPs xs = some ps) (h1 : PyData.canLayAll0 ps = true) (h2 : PyData.depthAll ps ≤ 60) : dEqv neg (.tup xs) (.tup xs) = some (.bl (!neg)) := by
  have hl : PyData.canLay0 (.tuple ps) = true := by simp [PyData.canLay0, h1]
  have hd : PyData.depth (.tuple ps) ≤ 64 := by simp [PyData.depth]; omega
  have hs : SeqAt.shaped (.tuple ps) = true := by unfold SeqAt.shaped; simp [hl, hd]
  have he := SeqAt.eqv_refl _ hl
  have ht' : toP (.tup xs) = some (.tuple ps) := by simp [toP, ht]
  show ((toP (.tup xs)).bind fun d => (toP (.tup xs)).bind fun e => if (SeqAt.shaped d && SeqAt.shaped e) = true then some (D.bl (if neg then !PyData.eqv d e else PyData.eqv d e)) else none) = _
  rw [ht', bind_some2, bind_some2, hs, he]
  cases neg <;> rfl
@[simp] theorem eqv_bl2 (neg a b : Bool) : dEqv neg (.bl a) (.bl b) = some (.bl (if neg then !decide (a = b) else decide (a = b))) := by cases neg <;> cases a <;> cases b <;> rfl
theorem call_raw {N : List Str} {mf : MS} {a : MG} {env e1 : En} {as : List Ag} {ss : List Sl} {R : Md → D → D → Prop} {i j : Nat} (h1 : a env = some (as, e1)) (h2 : iosOf as = [i]) (hb : i ∉ borsOf as) (hj : ioPlaces 0 as = [j]) (h4 : slotsOf e1 0 as = some ss)
    (h5 : W mf (ss ++ List.replicate (N.length - ss.length) .un) (RtIo j R)) : ∃ md d x, R md d x ∧ mCall N mf a env = some (md, d, putS e1 i x) := by
  have hap : apart as = true := by
    unfold apart; rw [h2]
    simp -implicitDefEqProofs only [Bool.and_eq_true, List.all_eq_true, decide_eq_true_eq]
    exact ⟨by simp -implicitDefEqProofs, fun k hk => by simp -implicitDefEqProofs; intro z; exact hb (by rw [← z]; exact hk)⟩
  obtain ⟨fl, h6, h7⟩ := h5
  have pre : ∀ md d e x, e[j]? = some (.io 0 x) → (fl = .nx e ∧ md = .imm ∧ d = .non ∨ fl = .ret md d e) → mCall N mf a env = some (md, d, putS e1 i x) := by
    intro md d e x hx hc
    unfold mCall
    rw [h1]
    simp -implicitDefEqProofs only [Option.bind_some]
    rw [if_pos hap, h4]
    simp -implicitDefEqProofs only [Option.bind_some]
    rw [h6, h2, hj]
    rcases hc with ⟨rfl, rfl, rfl⟩ | rfl
    · simp -implicitDefEqProofs only [Option.bind_some, backIo, hx]; rfl
    · simp -implicitDefEqProofs only [Option.bind_some, backIo, hx]; rfl
  cases fl with
  | nx e => obtain ⟨x, hx, hr⟩ := h7; exact ⟨_, _, x, hr, pre _ _ e x hx (.inl ⟨rfl, rfl, rfl⟩)⟩
  | ret md d e => obtain ⟨x, hx, hr⟩ := h7; exact ⟨_, _, x, hr, pre _ _ e x hx (.inr rfl)⟩
  | bk e => exact h7.elim
  | ct e => exact h7.elim
theorem make_ok {c : String} {N : List Str} {np : Nat} {mf : MS} {a : MG} {env e1 : En} {as : List Ag} {ss : List Sl} {R : D → Prop} (h1 : a env = some (as, e1)) (h2 : iosOf as = []) (hb : e1.length ∉ borsOf as) (hj : ioPlaces 1 as = []) (h3 : as.length + 1 = np) (h4 : slotsOf (e1 ++ [.own (.obj c [] [])]) 1 as = some ss)
    (h5 : W mf (.io 0 (.obj c [] []) :: ss ++ List.replicate (N.length - (ss.length + 1)) .un) (RtIo 0 fun md d x => md = .imm ∧ d = .non ∧ R x)) : ∃ x, R x ∧ mMake c N np mf a env = some (x, e1) := by
  have hio : iosOf (.io e1.length :: as) = [e1.length] := by
    show (Ag.io e1.length :: as).filterMap Ag.ioOf = _
    rw [List.filterMap_cons]
    show e1.length :: iosOf as = _
    rw [h2]
  obtain ⟨md, d, x, ⟨rfl, rfl, hr⟩, hc⟩ := call_raw (N := N) (mf := mf) (a := fun _ => some (.io e1.length :: as, e1 ++ [.own (.obj c [] [])])) (env := e1) (e1 := e1 ++ [.own (.obj c [] [])]) (as := .io e1.length :: as) (ss := .io 0 (.obj c [] []) :: ss) (i := e1.length) (j := 0) rfl hio
    (by
      have : borsOf (.io e1.length :: as) = borsOf as := by unfold borsOf; rw [List.filterMap_cons]
      rw [this]; exact hb)
    (by simp -implicitDefEqProofs [ioPlaces, hj]) (by simp -implicitDefEqProofs [h4]) (by simpa using h5)
  refine ⟨x, hr, ?_⟩
  unfold mMake
  rw [h1]
  simp -implicitDefEqProofs only [Option.bind_some]
  rw [if_pos h3, hc]
  simp -implicitDefEqProofs
end Q
namespace Q
open PySem PySem.Spec PyProof.Rows L2 CwR
/-! ## Where a token is out already: replace of written texts wants it -/
theorem keepT {α : Type} {M : Model} {A : Around} {t : Sem α} {Q : α → Shared → Prop} {E : Value → Shared → Prop} {s : Shared} (h0 : 1 ≤ s.toks) (h : wpAny M A t Q E s) : wpAny M A t (fun a z => 1 ≤ z.toks ∧ Q a z) E s :=
  wpAny_mono (PySem.wpAny_toks h) (fun _ _ q => ⟨Nat.le_trans h0 q.1, q.2⟩) fun _ _ z => z.2
section
variable {Z : Zc}
def EVT (Z : Zc) (e : Expr) (m : ME) : Prop := ∃ t, (∀ X, InF Z X → PET X e t) ∧ SE Z t m
def SVT (Z : Zc) (st : Stmt) (m : MS) : Prop := ∃ t, (∀ X, InF Z X → PST X st t) ∧ SS Z t m
def BVT (Z : Zc) (sts : List Stmt) (m : MS) : Prop := ∃ t, (∀ X, InF Z X → PSsT X sts t) ∧ SS Z t m
/-- a statement behind which a token is out -/
def PSK (X : Cx) (st : Stmt) (t : TS) : Prop := ∀ (pins : List (Addr × Obj)) (s : Shared) (σ : L2.St) (H : Hp) (D : Ends), Inv X pins σ H s → t D σ H → wpAny (model X.prog X.w) X.A (exec st X.env) (fun f z => 1 ≤ z.toks ∧ SP X pins D f z) X.xe s
def SVK (Z : Zc) (st : Stmt) (m : MS) : Prop := ∃ t, (∀ X, InF Z X → PSK X st t) ∧ SS Z t m
theorem evt_of {e : Expr} {m : ME} (h : EV Z e m) : EVT Z e m := let ⟨t, h1, h2⟩ := h; ⟨t, fun X i => CwR.PET.of (h1 X i), h2⟩
theorem svt_of {st : Stmt} {m : MS} (h : SV Z st m) : SVT Z st m := let ⟨t, h1, h2⟩ := h; ⟨t, fun X i => PST.of (h1 X i), h2⟩
theorem bvt_of {sts : List Stmt} {m : MS} (h : BV Z sts m) : BVT Z sts m := let ⟨t, h1, h2⟩ := h; ⟨t, fun X i => PSsT.of (h1 X i), h2⟩
def mRepl (y z : Str) (a : ME) : ME := fun env => (a env).bind fun p => match p.1 with
  | .str x => if x.length + (x.length + 1) * z.length ≤ 16777216 then some (.str (Txt.replace x y z), p.2) else none
  | _ => none
theorem repl_se {y z : Str} {t : TE} {m : ME} (h : SE Z t m) : SE Z (tReplC t y z) (mRepl y z m) := by
  intro g env σ I H Q d env' R hm k
  unfold mRepl at hm
  obtain ⟨⟨x, en⟩, e1, hm⟩ := Option.bind_eq_some_iff.mp hm
  refine h g env σ I H _ x en R e1 fun v I1 H1 R1 s1 rv => ?_
  dsimp only at hm
  split at hm
  · split at hm
    · rename_i w hl
      cases hm
      exact ⟨_, rv.str_inv, hl, k _ I1 H1 R1 s1 .str⟩
    · cases hm
  · cases hm
theorem evt_repl {o : Expr} {y z : Str} {j k : Nat} {c0 c1 apos pos : Pos} {m : ME} (ho : EVT Z o m) (hyz : (y == z) = false := by decide)
    (hst : ∀ env, starEach [.Constant (.str y) j c0, .Constant (.str z) k c1] env = [(false, eval (.Constant (.str y) j c0) env), (false, eval (.Constant (.str z) k c1) env)] := by intro _; rfl)
    (hbase : ∀ env, attributeBase o "replace" env (eval o env) = eval o env := by intro _; rfl) (hline : (apos.endLine == pos.line) = true := by rfl) :
    EVT Z (.Call (.Attribute o "replace" apos) [.Constant (.str y) j c0, .Constant (.str z) k c1] [] pos) (mRepl y z m) := by
  obtain ⟨t, h1, h2⟩ := ho
  exact ⟨_, fun X i => pet_replT (h1 X i) hyz (hst _) (hbase _) hline, repl_se h2⟩
theorem svt_ret {e : Expr} {m : ME} {pos : Pos} (h : EVT Z e m) : SVT Z (.Return (some e) pos) (mRet m) := by
  obtain ⟨t, h1, h2⟩ := h
  refine ⟨_, fun X i => pst_ret (h1 X i), fun g env σ I H D fl R hm k => ?_⟩
  unfold mRet at hm
  cases e1 : m env with
  | none => rw [e1] at hm; cases hm
  | some p => rw [e1] at hm; cases hm; exact h2 g env σ I H _ p.1 p.2 R e1 fun v I1 H1 R1 s1 rv => k σ I1 H1 v R1 s1 rv
theorem seq_ss {t u : TS} {a b : MS} (h2 : SS Z t a) (r2 : SS Z u b) : SS Z (tSeq t u) (mSeq a b) := by
  intro g env σ I H D fl R hm k
  unfold mSeq at hm
  cases e1 : a env with
  | none => rw [e1] at hm; cases hm
  | some f1 =>
    rw [e1] at hm
    simp only [Option.bind_some] at hm
    refine h2 g env σ I H _ f1 R e1 ?_
    cases f1 with
    | nx e => exact fun σ' I' H' R' s' => r2 g e σ' I' H' D fl R' hm (k.mono s')
    | bk e => cases hm; exact k
    | ct e => cases hm; exact k
    | ret md d e => cases hm; exact k
theorem bvt_cons {s : Stmt} {r : List Stmt} {a b : MS} (ha : SVT Z s a) (hb : BVT Z r b) : BVT Z (s :: r) (mSeq a b) := by
  obtain ⟨t, h1, h2⟩ := ha
  obtain ⟨u, r1, r2⟩ := hb
  exact ⟨_, fun X i => psst_cons (h1 X i) (r1 X i), seq_ss h2 r2⟩
theorem bvt_one {s : Stmt} {a : MS} (ha : SVT Z s a) : BVT Z [s] a := by
  obtain ⟨t, h1, h2⟩ := ha
  exact ⟨t, fun X i => psst_one (h1 X i), h2⟩
/-- behind the first statement a token is out -/
theorem bvk_cons {s : Stmt} {r : List Stmt} {a b : MS} (ha : SVK Z s a) (hb : BVT Z r b) : BV Z (s :: r) (mSeq a b) := by
  obtain ⟨t, h1, h2⟩ := ha
  obtain ⟨u, r1, r2⟩ := hb
  refine ⟨_, fun X i => ⟨fun pins s σ H D I h => ?_⟩, seq_ss h2 r2⟩
  refine wpAny_execs_cons (wpAny_mono (h1 X i pins s σ H { D with nx := u D } I h) (fun f z q => ?_) fun _ _ x => x)
  obtain ⟨hk, q⟩ := q
  cases f with
  | next => obtain ⟨σ', H', I', q⟩ := q; exact r1 X i pins z σ' H' D hk I' q
  | ret v => exact q
  | brk => exact q
  | cont => exact q
/-! ### a def that wants a token -/
theorem psst_nox {X : Cx} {sts : List Stmt} {t : TS} (h : PSsT (Cx.nox X) sts t) : PSsT X sts t := fun pins s σ H D h0 I hw =>
  wpAny_mono (h pins s σ H D h0 (I.wish _) hw) (fun f z q => SP.unwish q) fun f z q => False.elim q
structure FnGT (P : Program) (w : World) (K : PySem.W.Frag) (mg : Str → Option Value) (base : Heap) (CX : CXT) (k : Nat) (f : Addr) (fd : FuncData) (ps : List Str) (sp : Sp) : Prop where
  ar : ∀ {vs H Q E}, sp vs H Q E → vs.length = ps.length
  go : ∀ {A : Around} {outer : List Env} {s : Shared} {H : Hp} {args : Args} {us : List Value} {vs : List V} {Q : VK} {E : XK}, 1 ≤ s.toks → Room k A → Calmy A →
    Env0 P w K mg base A outer s H → BindsTo s fd args (ps.zip us) → Vals vs us → sp vs H Q E → codeAny (model P w) A (.call (.ref f) args) (CR CX outer P w H s Q E) s
theorem fnT_ok {P : Program} {w : World} {K : PySem.W.Frag} {mg : Str → Option Value} {base : Heap} {cl : String → Option Addr} {x qual : Str} {st : Stmt} {f : Addr} {fd : FuncData} {N ps : List Str} {k : Nat} {m : MS}
    (F : Fun K x qual st f fd) (S : FnScope N ps (defScope st)) (hb : BVT ⟨P, w, K, mg, base, N, defScope st, k, cl, true, none⟩ (defBody st) m) : FnGT P w K mg base CX0 (k + 1) f fd ps (spM K cl N ps.length m) := by
  obtain ⟨oc, od, kV, doc, pm, an, cdv, ct, osl, rfl, lk, hcd⟩ := F.ex
  obtain ⟨t, b1, b2⟩ := hb
  refine ⟨fun h => h.1, fun {A outer s H args us vs Q E} htk hr hg e0 hbd r hsp => ?_⟩
  have keep : ∀ b o, base.get? b = some o → s.heap.get? b = some o := fun b o e => (e0.bs b o e).1
  have KX : K.In s.heap := e0.mod.kin.keeps keep
  refine codeAny_call_function hr.depth (KX _ _ lk) rfl S.co S.gen rfl (PySem.W.codeRec_of KX hcd) (hbd _ _ _ _ ?_)
  refine wpAny_mono (keepT htk (wpAny_newFunctionEnv_cells (Q := fun env s1 => env = envOfC qual (defScope st) s.heap.objs.size f cdv ∧ InCallC s env.locals (bindL env.kindOf (ps.zip us) fun _ => none) env.cells (bindC env.kindOf (ps.zip us) fun _ => none) s1) S.kind (fun y hy => ?_) fun env he s1 i1 => ⟨he, i1⟩)) (fun env s1 q => ?_) fun _ _ z => z
  · rcases S.par y.1 (List.of_mem_zip hy).1 with q | q
    · exact .inl q
    · exact .inr ⟨q, PySem.W.cellsFrom_some _ _ _ (.inl q)⟩
  · obtain ⟨hk, he, i1⟩ := q
    subst he
    obtain ⟨hl, g, env, I0, fl, R, hm, k'⟩ := hsp
    have hrd : Room k (A.deeper (envOfC qual (defScope st) s.heap.objs.size f cdv)) := hr.deeper _
    have I := inv_start (CX := CX0) (E := E) S hr.hd e0 hl r i1
    have fin : ∀ {σ' : L2.St} {H' : Hp} {v : V} {u : Value} {z : Shared}, Inv (cxOf CX0 P w K mg base N qual (defScope st) f cdv A outer s H E) [] σ' H' z → RelV v u → Q v H' → CE outer P w H s Q u z :=
      fun {σ' H' v u z} J rv q => ⟨v, H', J.os, J.bare, J.base, J.hok, rv, q⟩
    refine ⟨(e0.mod.nolimit.keeps keep).keeps i1.toInCall.keep, codeAny_func ?_⟩
    have hin : InF ⟨P, w, K, mg, base, N, defScope st, k, cl, true, none⟩ (Cx.nox (cxOf CX0 P w K mg base N qual (defScope st) f cdv A outer s H E)) := ⟨rfl, rfl, rfl, rfl, rfl, rfl, rfl, rfl, hrd, S.nd, fun _ _ => rfl, PassesOwn.never, hg, fun c P e => by cases e⟩
    refine wpAny_mono (psst_nox (b1 _ hin) [] s1 (start N vs) H { nx := fun _ H' => Q .non H', rt := Q } hk I ?_) (fun fl z hs => ?_) fun _ _ q => q
    · refine b2 g env (start N vs) I0 H _ fl R hm ?_
      cases fl with
      | nx e => exact fun σ' I' H' R' s => k' σ' I' H' R' s
      | bk e => exact k'.elim
      | ct e => exact k'.elim
      | ret md d e =>
        intro σ' I' H' v R' s hr
        refine k' σ' I' H' v R' s ?_
        cases md with
        | imm => exact hr
        | new => exact hr
    · match fl, hs with
      | .ret u, ⟨v, σ', H', J, rv, q⟩ => exact fin J rv q
      | .next, ⟨σ', H', J, q⟩ => exact fin (v := V.non) (u := Value.none) J rfl q
      | .brk, ⟨_, _, _, q⟩ => exact q.elim
      | .cont, ⟨_, _, _, q⟩ => exact q.elim
/-! ### its call -/
theorem FnGT.runs {X : Cx} {CX : CXT} {k : Nat} {f : Addr} {fd : FuncData} {ps : List Str} {sp : Sp} {E : XK} {pins : List (Addr × Obj)} {σ : L2.St} {H : Hp} {s : Shared} {Q : VK} {us : List Value} {vs : List V} (F : FnGT X.prog X.w X.K X.mg X.base CX k f fd ps sp) (h0 : 1 ≤ s.toks) (hr : Room k X.A) (g : Calmy X.A) (hb : Binds X.K fd ps []) (hx : Passes CX X E) (I : Inv X pins σ H s) (r : Vals vs us)
    (h : sp vs H Q E) : wpAny (model X.prog X.w) X.A (call (.ref f) us) (EP X pins σ Q) X.xe s :=
  wpAny_call (codeAny_mono (F.go h0 hr g I.env0 (binds0 hb I (r.length.symm.trans (F.ar h))) r h) fun a b q => match a, q with
    | .error e, q => hx pins σ H s e b I q
    | .ok (.ret u), q => I.after q
    | .ok .next, q => q.elim
    | .ok .brk, q => q.elim
    | .ok .cont, q => q.elim)
theorem FnGT.pet {X : Cx} {CX : CXT} {k : Nat} {f : Addr} {fd : FuncData} {ps : List Str} {sp : Sp} {E : XK} {x : Str} {e : Expr} {es : List Expr} {t : TA} {p pos : Pos} (F : FnGT X.prog X.w X.K X.mg X.base CX k f fd ps sp) (hr : Room k X.A) (g : Calmy X.A) (hg : Gl X x) (hm : X.mg x = some (.ref f)) (hk : PySem.W.keepIn X.K (.ref f) = true) (hb : Binds X.K fd ps [])
    (hx : Passes CX X E) (ha : PA X (e :: es) t) (hdb : (x == ("__debug__" : Str)) = false) (he : starEach (e :: es) X.env = (false, eval e X.env) :: starEach es X.env)
    (hpl : (backTo pos (starEach es X.env)).any (·.1) = false) : PET X (.Call (.Name x p) (e :: es) [] pos) (tCall sp [] E t) := by
  intro pins s σ H Q h0 I h
  refine wpAny_Call_Name_kw (ld_glob I hg hm (PySem.W.callWith_K (h₀ := X.base) I.ok.mod.kin hk (wpAny_mono (keepT h0 (ha.run pos pins s σ H _ I h)) (fun us s1 q => ?_) fun _ _ z => z) he hpl) hdb)
  obtain ⟨h1, vs, H1, I1, r, q⟩ := q
  exact ⟨I1.kIn, F.runs h1 hr g hb hx I1 r (by simpa using q)⟩
structure FnZT (Z : Zc) (x : Str) (N : List Str) (np : Nat) (mf : MS) : Prop where
  ex : ∃ (f : Addr) (fd : FuncData) (ps : List Str), FnGT Z.P Z.w Z.K Z.mg Z.base CX0 Z.k f fd ps (spM Z.K Z.cl N np mf) ∧ Z.mg x = some (.ref f) ∧ PySem.W.keepIn Z.K (.ref f) = true ∧ Binds Z.K fd ps []
theorem evt_call {x : Str} {N : List Str} {np : Nat} {mf : MS} {e : Expr} {es : List Expr} {a : MG} {p pos : Pos} (F : FnZT Z x N np mf) (hg : GlZ Z x) (ha : AV Z (e :: es) a) (hdb : (x == ("__debug__" : Str)) = false := by decide)
    (he : ∀ env, starEach (e :: es) env = (false, eval e env) :: starEach es env := by intro _; rfl) (hpl : ∀ env, (backTo pos (starEach es env)).any (·.1) = false := by intro _; rfl) : EVT Z (.Call (.Name x p) (e :: es) [] pos) (mCallV N np mf a) := by
  obtain ⟨f, fd, ps, h1, h2, h3, h4⟩ := F.ex
  obtain ⟨t, a1, a2⟩ := ha
  refine ⟨tCall (spM Z.K Z.cl N np mf) [] E0 t, fun X i => FnGT.pet (CX := CX0) (k := Z.k) (f := f) (fd := fd) (ps := ps) (E := E0) (sp := spM Z.K Z.cl N np mf) ?_ i.room i.gd (glOf i hg) (by rw [i.mg]; exact h2) (by rw [i.K]; exact h3) (by rw [i.K]; exact h4) pass0 (a1 X i) hdb (he _) (hpl _), call_se a2⟩
  rw [i.prog, i.w, i.K, i.mg, i.base]; exact h1
/-! ### statements -/
theorem svt_asg {i : Nat} {x : Str} {e : Expr} {m : ME} {p pos : Pos} (hN : Z.N[i]? = some x) (hv : LocZ Z x) (h : EVT Z e m) (hs : ∀ env, swapsWith e (some (.Name x p)) pos.line env = pure false := by intro _; rfl) : SVT Z (.Assign [.Name x p] e pos) (mAsg i m) := by
  obtain ⟨t, q1, q2⟩ := h
  refine ⟨tAsg t (gName i), fun X k pins s σ H D h0 I h => ?_, fun g env σ I H D fl R hm k => ?_⟩
  · refine wpAny_Assign_Name (thn (q1 X k pins s σ H _ h0 I h) fun v s1 ⟨y, H1, I1, r1, w1⟩ => ?_) (hs _)
    exact store_ok (v := y) I1 k.nd (by rw [k.N]; exact hN) (locOf k hv).1 r1 (fun s2 I2 => ⟨_, H1, I2, w1⟩) (locOf k hv).2
  · unfold mAsg at hm
    cases e1 : m env with
    | none => rw [e1] at hm; cases hm
    | some r =>
      rw [e1] at hm
      simp only [Option.bind_some] at hm
      split at hm
      · rename_i hi
        cases hm
        exact q2 g env σ I H _ r.1 r.2 R e1 fun v I1 H1 R1 s1 rv => k _ I1 H1 (R1.setImm (by rw [← R1.len]; exact hi) rv) s1
      · cases hm
/-- o.split(written text): behind it a token is out -/
theorem pek_split {X : Cx} {o : Expr} {to : TE} {y : Str} {j : Nat} {cp apos cpos : Pos} (ho : PE X o to)
    (hst : starEach [.Constant (.str y) j cp] X.env = [(false, eval (.Constant (.str y) j cp) X.env)]) (hbase : attributeBase o "split" X.env (eval o X.env) = eval o X.env) (hline : (apos.endLine == cpos.line) = true)
    {pins : List (Addr × Obj)} {s : Shared} {σ : L2.St} {H : Hp} {Q : VK} (I : Inv X pins σ H s) (h : tM1 (fun x xs H Q => ∃ a b, x = .str a ∧ xs = [.str b] ∧ (b.length == 0) = false ∧ a.length + 2 ≤ sizeLine ∧ rNewStrs (Txt.split a b) H Q) to (tC (.str y)) σ H Q) :
    wpAny (model X.prog X.w) X.A (eval (.Call (.Attribute o "split" apos) [.Constant (.str y) j cp] [] cpos) X.env) (fun v z => 1 ≤ z.toks ∧ EP X pins σ Q v z) X.xe s := by
  refine PySem.Call_method1 hbase hst hline (thn (ho.run pins s σ H _ I h) fun v s1 ⟨x, H1, I1, r1, q1⟩ => ?_)
  obtain ⟨⟨a, rfl⟩, q1⟩ := q1
  obtain ⟨tk, rfl⟩ := _root_.id r1
  refine ⟨"str", _, F.plainAttrs_str, F.slot_str_split, F.type_str_split, typeIs_str _ _ _, (fun _ e => nomatch e), Calls.callWith_builtin rfl (Calls.evalArgs_plain (Calls.spliced_cons (Calls.Constant_str (Calls.spliced_nil ?_))))⟩
  exact keepT (by show 1 ≤ s1.toks + 1; omega) (mt_split pins _ σ H1 _ [.str y] _ [.str y s1.toks] Q (I1.tok _) r1 (.cons ⟨_, rfl⟩ .nil) q1)
abbrev rSplit : V → List V → Hp → VK → Prop := fun x xs H Q => ∃ a b, x = .str a ∧ xs = [.str b] ∧ (b.length == 0) = false ∧ a.length + 2 ≤ sizeLine ∧ rNewStrs (Txt.split a b) H Q
theorem split_sf {to : TE} {mo : ME} {y : Str} (h2 : SE Z to mo) : SF Z (tM1 rSplit to (tC (.str y))) (mM1 fSplit mo (mC (.str y))) := by
  intro g env σ I H Q d env' R hm k
  obtain ⟨x, e1, y', q1, q2, q3⟩ := mM1_inv hm
  cases q2
  refine h2 g env σ I H _ _ _ R q1 fun v I1 H1 R1 s1 rv => ?_
  cases rv.str_inv
  refine ⟨⟨x, rfl⟩, ?_⟩
  unfold fSplit at q3
  split at q3
  · rename_i hl
    cases q3
    exact ⟨x, y, rfl, rfl, hl.1, hl.2, fun p hp => k p _ I1 _ (R1.alloc hp _) s1 (R1.new hp) (.lst (reps_strs _))⟩
  · cases q3
/-- x = o.split(written text): behind it a token is out -/
theorem svk_split {i : Nat} {x : Str} {o : Expr} {y : Str} {j : Nat} {cp apos p cpos pos : Pos} {mo : ME} (hN : Z.N[i]? = some x) (hv : LocZ Z x) (ho : EV Z o mo) (hs : ∀ env, swapsWith (.Call (.Attribute o "split" apos) [.Constant (.str y) j cp] [] cpos) (some (.Name x p)) pos.line env = pure false := by intro _; rfl)
    (hst : ∀ env, starEach [.Constant (.str y) j cp] env = [(false, eval (.Constant (.str y) j cp) env)] := by intro _; rfl) (hbase : ∀ env, attributeBase o "split" env (eval o env) = eval o env := by intro _; rfl) (hline : (apos.endLine == cpos.line) = true := by rfl) :
    SVK Z (.Assign [.Name x p] (.Call (.Attribute o "split" apos) [.Constant (.str y) j cp] [] cpos) pos) (mAsg i (mM1 fSplit mo (mC (.str y)))) := by
  obtain ⟨t, h1, h2⟩ := ho
  refine ⟨tAsg (tM1 rSplit t (tC (.str y))) (gName i), fun X k pins s σ H D I h => ?_, fun g env σ I H D fl R hm k => ?_⟩
  · refine wpAny_Assign_Name (wpAny_mono (pek_split (h1 X k) (hst _) (hbase _) hline I h) (fun v z q => ?_) fun _ _ z => z) (hs _)
    obtain ⟨hk, y1, H1, I1, r1, w1⟩ := q
    exact keepT hk (store_ok (v := y1) I1 k.nd (by rw [k.N]; exact hN) (locOf k hv).1 r1 (fun s2 I2 => ⟨_, H1, I2, w1⟩) (locOf k hv).2)
  · unfold mAsg at hm
    cases e1 : mM1 fSplit mo (mC (.str y)) env with
    | none => rw [e1] at hm; cases hm
    | some r =>
      rw [e1] at hm
      simp only [Option.bind_some] at hm
      split at hm
      · rename_i hi
        cases hm
        exact (split_sf h2).se g env σ I H _ r.1 r.2 R e1 fun v I1 H1 R1 s1 rv => k _ I1 H1 (R1.setImm (by rw [← R1.len]; exact hi) rv) s1
      · cases hm
end
section
variable {Z : Zc}
/-! ### for, list comprehensions: a token is out ahead of them -/
theorem for_ss {wi : TI} {gt : TG} {tb : TS} {mi : MI} {gf : D → En → Option En} {mb : MS} {ix : List Nat} (i2 : SI Z wi mi)
    (g2 : ∀ (g : G) (env : En) (σ : L2.St) (I H : Hp) (d : D) (v : V) (Q : L2.St → Hp → Prop) (env' : En), SR Z.K Z.cl g env σ I H → Rep Z.K Z.cl I d v → gf d env = some env' →
      (∀ σ', SR Z.K Z.cl g env' σ' I H → (∀ vs, (∀ i ∈ ix, i ∈ vs) → wipe σ' vs = wipe σ vs) → Q σ' H) → gt v σ H Q) (b2 : SS Z tb mb) : SS Z (tFor wi gt tb) (mForS mi gf mb) := by
  intro g env σ I H D fl R hm k
  unfold mForS at hm
  cases e1 : mi env with
  | none => rw [e1] at hm; cases hm
  | some p =>
    obtain ⟨ds, en⟩ := p
    rw [e1] at hm; simp only [Option.bind_some] at hm
    refine i2 g env σ I H _ ds en R e1 fun J I1 H1 R1 s1 wd => ?_
    obtain ⟨Gd, Y, hw, hgd, hy⟩ := wd
    refine for_it hw (fun i σ' H' => ∃ env' I', SR Z.K Z.cl g env' σ' I' H' ∧ Same I1 I' ∧ mFor gf mb (ds.drop i) env' = some fl) ⟨en, I1, R1, Same.refl _, hm⟩ (fun i σ' H' _ ⟨env', I', R', s', _⟩ => hgd I' H' s' R'.sub) ?_ ?_
    · rintro i x σ2 H2 H3 hlt ⟨env2, I2, R2, s2, hm2⟩ hyld
      have hd : ds[i]? = some ds[i] := List.getElem?_eq_getElem hlt
      have hdrop : ds.drop i = ds[i] :: ds.drop (i + 1) := List.drop_eq_getElem_cons hlt
      rw [hdrop] at hm2
      obtain ⟨I3, R3, s3, r3⟩ := hy i ds[i] g env2 σ2 I2 H2 x H3 hd s2 R2 hyld
      unfold mFor at hm2
      cases e2 : gf ds[i] env2 with
      | none => rw [e2] at hm2; cases hm2
      | some en2 =>
        rw [e2] at hm2; simp only [Option.bind_some] at hm2
        refine g2 g env2 σ2 I3 H3 ds[i] x _ en2 R3 r3 e2 fun σ4 R4 _ => ?_
        cases e3 : mb en2 with
        | none => rw [e3] at hm2; cases hm2
        | some f =>
          rw [e3] at hm2; simp only [Option.bind_some] at hm2
          refine b2 g en2 σ4 I3 H3 _ f R4 e3 ?_
          cases f with
          | nx e => exact fun σ5 I5 H5 R5 s5 => ⟨e, I5, R5, (s2.trans s3).trans s5, hm2⟩
          | ct e => exact fun σ5 I5 H5 R5 s5 => ⟨e, I5, R5, (s2.trans s3).trans s5, hm2⟩
          | bk e => cases hm2; exact fun σ5 I5 H5 R5 s5 => k σ5 I5 H5 R5 (s1.trans ((s2.trans s3).trans s5))
          | ret md r e => cases hm2; exact fun σ5 I5 H5 v R5 s5 hr => k σ5 I5 H5 v R5 (s1.trans ((s2.trans s3).trans s5)) hr
    · rintro σ2 H2 ⟨env2, I2, R2, s2, hm2⟩
      rw [List.drop_length] at hm2
      cases hm2
      exact k σ2 I2 H2 R2 (s1.trans s2)
/-- the run of a for whose body wants a token -/
theorem pst_forT {X : Cx} {tg iter : Expr} {body : List Stmt} {wi : TI} {g : TG} {tb : TS} {pos : Pos} (own : PassesOwn (model X.prog X.w) X.A X.env X.xe) (calm : X.calm = true) (hi : PI X tg iter wi) (hg : PG X tg g) (hb : PSsT X body tb)
    (hs : ∀ x, foldedSetIterable iter X.env x = pure x) : PST X (.For tg iter body [] pos) (tFor wi g tb) := by
  intro pins s σ H D h0 I h
  refine wpAny_For (wpAny_mono (keepT h0 (hi.run pins s σ H _ I h)) (fun v s1 q1 => wpAny_mono (keepT q1.1 q1.2) (fun itv s2 q2 => ?_) fun _ _ z => z) fun _ _ z => z) hs
  obtain ⟨h2, it, fp, tn, J, C, e, I2, T, st2, f2, W, ⟨m0, w0⟩, turn⟩ := q2
  subst e
  have fok : ∀ {C' : Hp}, (∀ b ∈ fp, C' b = none) → ∀ b ∈ fp, FpOk X pins C' b := fun hn b hb => ⟨hn b hb, (f2 b hb).2⟩
  refine codeAny_forLoop_any (fun n z => 1 ≤ z.toks ∧ ∃ i τ C', Inv X pins τ C' z ∧ tn i z.heap ∧ (∀ b ∈ fp, C' b = none) ∧ W i n τ C') ?_ m0 ⟨h2, 0, σ, C, I2, st2, fun b hb => (f2 b hb).1, w0⟩
  rintro n s3 ⟨h3, i, τ, C3, I3, st3, n3, w3⟩
  rcases turn i n τ C3 w3 with ⟨stop, qn⟩ | ⟨go, N, hN, step⟩
  · refine wpAny_passesOwn own (thn (T.done X rfl rfl rfl calm i pins s3 τ C3 X.xe I3 (fok n3) st3 stop) fun r s4 q => ?_)
    obtain ⟨hr, I4⟩ := q
    subst hr
    exact wpAny_execs_nil ⟨τ, C3, I4, qn⟩
  · refine wpAny_passesOwn own (wpAny_mono (keepT h3 (T.item X rfl rfl rfl calm i pins s3 τ C3 X.xe I3 (fok n3) st3 go)) (fun r s4 q => ?_) fun _ _ z => z)
    obtain ⟨h4, u, hr, q⟩ := q
    subst hr
    refine wpAny_passesOwn own (wpAny_mono (keepT h4 q) (fun _ s5 q => ?_) fun _ _ z => z)
    obtain ⟨h5, x, C5, I5, r5, y5, st5, n5⟩ := q
    refine wpAny_passesOwn own (wpAny_mono (keepT h5 (hg.run _ s5 τ C5 x u _ (I5.pinned (fok n5) (T.obj _ _ st5)) r5 (step x C5 y5))) (fun _ s6 q => ?_) fun _ _ z => z)
    obtain ⟨h6, σ6, C6, I6, q6⟩ := q
    refine wpAny_passesOwn own (wpAny_mono (keepT h6 (hb _ s6 σ6 C6 _ h6 I6 q6)) (fun f s7 q => ?_) fun _ _ z => z)
    obtain ⟨h7, q7⟩ := q
    have next : ∀ {σ7 : L2.St} {C7 : Hp}, Inv X (pins ++ pinsAt fp s5.heap) σ7 C7 s7 → N σ7 C7 → ∃ m, m < n ∧ 1 ≤ s7.toks ∧ ∃ i τ C', Inv X pins τ C' s7 ∧ tn i s7.heap ∧ (∀ b ∈ fp, C' b = none) ∧ W i m τ C' := fun {σ7 C7} I7 n7 => by
      obtain ⟨m', hm, w7⟩ := hN σ7 C7 n7
      have pin : ∀ b ∈ fp, ∀ o, s5.heap.get? b = some o → s7.heap.get? b = some o ∧ C7 b = none := fun b hb o e => let q := I7.pin (b, o) (List.mem_append_right _ (List.mem_append_right _ (mem_pinsAt hb e))); ⟨q.1, q.2.1⟩
      refine ⟨m', hm, h7, i + 1, σ7, C7, I7.unpinned, T.keep _ _ _ st5 fun b hb o e => (pin b hb o e).1, fun b hb => ?_, w7⟩
      obtain ⟨o, e, _⟩ := T.obj _ _ st5 b hb
      exact (pin b hb o e).2
    cases f with
    | next => obtain ⟨σ7, C7, I7, n7⟩ := q7; exact next I7 n7
    | cont => obtain ⟨σ7, C7, I7, n7⟩ := q7; exact next I7 n7
    | brk => obtain ⟨σ7, C7, I7, q7⟩ := q7; exact ⟨σ7, C7, I7.unpinned, q7⟩
    | ret v => obtain ⟨x7, σ7, C7, I7, r7, q7⟩ := q7; exact ⟨x7, σ7, C7, I7.unpinned, r7, q7⟩
theorem svt_for {tg e : Expr} {b : List Stmt} {mi : MI} {ix : List Nat} {gf : D → En → Option En} {mb : MS} {pos : Pos} (hi : IV Z tg e mi) (hg : GV Z tg ix gf) (hb : BVT Z b mb) (hs : ∀ env x, foldedSetIterable e env x = pure x := by intro _ _; rfl) : SVT Z (.For tg e b [] pos) (mForS mi gf mb) := by
  obtain ⟨wi, i1, i2⟩ := hi
  obtain ⟨gt, g1, g2⟩ := hg
  obtain ⟨tb, b1, b2⟩ := hb
  exact ⟨tFor wi gt tb, fun X k => pst_forT k.own k.calm (i1 X k) (g1 X k) (b1 X k) (hs _), for_ss i2 g2 b2⟩
end
end Q
namespace Q
open PySem PySem.Spec PyProof.Rows L2 CwR
/-! ## A list comprehension whose element wants a token; its iterator gives one out -/
/-- the iterator's making gives a token out -/
def PIK (X : Cx) (tg iter : Expr) (wi : TI) : Prop := ∀ (pins : List (Addr × Obj)) (s : Shared) (σ : L2.St) (H : Hp) (R : It → Hp → Prop), Inv X pins σ H s → wi σ H R →
  wpAny (model X.prog X.w) X.A (eval iter X.env) (fun v s1 => 1 ≤ s1.toks ∧ wpAny (model X.prog X.w) X.A (pyIter v) (PIE X pins σ tg R) X.xe s1) X.xe s
section
variable {X : Cx}
theorem lcT_core {pins : List (Addr × Obj)} {s : Shared} {σ : L2.St} {H : Hp} {Q : VK} {elt tg iter : Expr} {scope : Scope} {own : List (Str × Nat)} {pos pos' : Pos} {wi : TI} {g : TG} {te : TE} {use : Option (Value → Sem Unit)} {Qf : Value → Shared → Prop}
    (calm : X.calm = true) (nd : X.N.Nodup) (I : Inv X pins σ H s) (hi : PIK X tg iter wi) (ok : BlkOk X.N X.env.scope scope own)
    (hg : ∀ (s : Shared) (H : Hp) (C : Addr) (cl : List (Str × Addr)) (fp : List Addr), PG (X.blk s H scope (compEnvC scope cl C X.env) fp) tg g)
    (he : ∀ (s : Shared) (H : Hp) (C : Addr) (cl : List (Str × Addr)) (fp : List Addr), PET (X.blk s H scope (compEnvC scope cl C X.env) fp) elt te) (hs : ∀ x, foldedSetIterable iter X.env x = pure x)
    (h : tLc wi g tYes te (own.map (·.2)) σ H Q)
    (fin2 : ∀ L C z m H', Inv X pins σ H' z → Q (.ref L) H' → z.heap.Ns C m → FpOk X pins H' C → compPost (model X.prog X.w) X.A X.xe use Qf (.ref L) C (.ok .next) z) :
    wpAny (model X.prog X.w) X.A (comprehension (.ListComp elt [⟨tg, iter, [], 0⟩] scope pos) scope X.env pos' (newList []) false (eval iter X.env) use) Qf X.xe s := by
  have free : ∀ y ∈ scope.names, y.2 = .free → ∃ c, X.env.cells.lookup y.1 = some c := fun y hy e => (ok.free y hy e).elim (fun k => I.ok.has _ (.inl k)) fun k => I.ok.has _ (.inr k)
  refine wpAny_comprehension_free (use := use) rfl hs (closure_ok free) ok.kind (fun y hy e => by rw [ok.uniq y hy, e]) (thn (hi pins s σ H _ I h) fun xv s1 q => wpAny_mono (keepT q.1 q.2) (fun itv s2 q2 => ?_) fun _ _ z => z)
  obtain ⟨h2, it, fp, tn, J, H2, e, I2, T, st2, f2, q⟩ := q2
  subst e
  refine wpAny_newObj_type (newEnv_comp ?_) (by show 0 ≤ sizeLine; decide)
  generalize hL : s2.heap.objs.size = L
  have nL : H2 L = none := I2.hok.fresh (Nat.le_of_eq hL)
  obtain ⟨W, ⟨m0, w0⟩, turn⟩ := q L nL
  generalize hs3 : ({ s2 with heap := s2.heap.push { cls := .type "list", data := .seq ([] : List Value).toArray } } : Shared) = s3
  have e3 : s3.heap = s2.heap.push { cls := .type "list", data := .seq ([] : List Value).toArray } := by rw [← hs3]
  have t3 : 1 ≤ s3.toks := by rw [← hs3]; exact h2
  have I3 : Inv X pins σ (upd H2 L (.lst [])) s3 := by
    rw [← hs3]
    refine I2.laid (t' := s2.toks) (fun b o e => Heap.get?_push_of_some _ e) (Nat.le_of_eq hL) ⟨Nat.zero_le _, [], 0, .nil, ?_⟩
    rw [← hL]; exact Heap.get?_push_size _ rfl
  have lt2 : ∀ b ∈ fp, b < s2.heap.objs.size := fun b hb => by
    obtain ⟨o, e, _⟩ := T.obj _ _ st2 b hb
    exact Heap.lt_size e
  have f3 : ∀ b ∈ fp, FpOk X pins (upd H2 L (.lst [])) b ∧ b < s3.heap.objs.size := fun b hb => by
    refine ⟨⟨?_, (f2 b hb).2⟩, by rw [e3, Heap.size_push]; exact Nat.lt_succ_of_lt (lt2 b hb)⟩
    rw [upd_ne (by rw [← hL]; exact Nat.ne_of_lt (lt2 b hb))]
    exact (f2 b hb).1
  have st3 : tn 0 s3.heap := T.keep _ _ _ st2 fun b _ o e => by rw [e3]; exact Heap.get?_push_of_some _ e
  have I4 := block_start I3 ok nd f3
  have pg := hg s3 (upd H2 L (.lst [])) s3.heap.objs.size (cellsFrom (s3.heap.objs.size + 1) scope.names (cloFrom X.env.cells scope.names [])) fp
  have pe := he s3 (upd H2 L (.lst [])) s3.heap.objs.size (cellsFrom (s3.heap.objs.size + 1) scope.names (cloFrom X.env.cells scope.names [])) fp
  show codeAny _ _ (.compStart (.ListComp elt [⟨tg, iter, [], 0⟩] scope pos) 0 (.ref it) (.ref L) (compEnvC scope (cellsFrom (s3.heap.objs.size + 1) scope.names (cloFrom X.env.cells scope.names [])) s3.heap.objs.size X.env)) (compPost (model X.prog X.w) X.A X.xe use Qf (.ref L) s3.heap.objs.size) { s3 with heap := pushCells (s3.heap.push { cls := .type "dict", data := .dict #[] }) scope.names }
  generalize hce : compEnvC scope (cellsFrom (s3.heap.objs.size + 1) scope.names (cloFrom X.env.cells scope.names [])) s3.heap.objs.size X.env = ce at I4 pg pe ⊢
  have cL : ce.locals = s3.heap.objs.size := by subst hce; rfl
  generalize hH3 : upd H2 L (.lst []) = H3 at I3 I4 pg pe w0 f3
  generalize hs4 : ({ s3 with heap := pushCells (s3.heap.push { cls := .type "dict", data := .dict #[] }) scope.names } : Shared) = s4 at I4 ⊢
  have t4 : 1 ≤ s4.toks := by rw [← hs4]; exact t3
  have st4 : tn 0 s4.heap := T.keep _ _ _ st3 fun b _ o e => by rw [← hs4]; exact pushCells_keeps _ _ _ _ (Heap.get?_push_of_some _ e)
  have fok : ∀ {τ : L2.St} {C : Hp} {z : Shared}, Inv (X.blk s3 H3 scope ce fp) [] τ C z → (∀ b ∈ fp, C b = none) → ∀ b ∈ fp, FpOk (X.blk s3 H3 scope ce fp) [] C b := fun {τ C z} I' hn b hb =>
    ⟨hn b hb, (I'.ok.exf b hb).1, I'.ok.exfs b hb, .inl hb, fun x c e => (I'.ok.exf b hb).2 x c e, fun p hp => absurd (show p ∈ ([] : List (Addr × Obj)) ++ [] from hp) (by simp)⟩
  have loop : codeAny (model X.prog X.w) X.A (.compLoop (.ListComp elt [⟨tg, iter, [], 0⟩] scope pos) 0 (.ref it) (.ref L) ce) (compPost (model X.prog X.w) X.A X.xe use Qf (.ref L) s3.heap.objs.size) s4 := by
    refine compLoop_any (fun n z => 1 ≤ z.toks ∧ ∃ i C, Inv (X.blk s3 H3 scope ce fp) [] (wipe σ (own.map (·.2))) C z ∧ tn i z.heap ∧ (∀ b ∈ fp, C b = none) ∧ W i n C) ?_ m0 ⟨t4, 0, H3, I4, st4, fun b hb => (f3 b hb).1.1, w0⟩
    rintro n s5 ⟨t5, i, C5, I5, st5, n5, w5⟩
    rcases turn i n C5 w5 with ⟨stop, qq⟩ | ⟨go, Nx, hNx, step⟩
    · refine thnF (T.done (X.blk s3 H3 scope ce fp) rfl rfl rfl calm i [] s5 _ C5 (fun _ _ => False) I5 (fok I5 n5) st5 stop) fun r s6 q => ?_
      obtain ⟨hr, I6⟩ := q
      subst hr
      have I7 : Inv X pins σ C5 s6 := I3.call' (ch := fp) I6.os I6.base I6.hok I6.bare fun b hb => ⟨(f3 b hb).1.2.2.2.1, (f3 b hb).1.2.1, (f3 b hb).1.2.2.2.2.1, (f3 b hb).1.2.2.2.2.2⟩
      have nC : C5 s3.heap.objs.size = none := by rw [← cL]; exact I6.free
      obtain ⟨m, hn, _⟩ := I6.loc
      have hn : s6.heap.Ns ce.locals m := hn
      rw [cL] at hn
      exact fin2 L s3.heap.objs.size s6 m C5 I7 qq hn (I3.fpOk (Nat.le_refl _) nC)
    · refine thnF (keepT t5 (T.item (X.blk s3 H3 scope ce fp) rfl rfl rfl calm i [] s5 _ C5 (fun _ _ => False) I5 (fok I5 n5) st5 go)) fun r s6 q => ?_
      obtain ⟨t6, u, hr, h6⟩ := q
      subst hr
      refine thnF (keepT t6 h6) fun _ s7 q => ?_
      obtain ⟨t7, x, C7, I7, r7, y7, st7, n7⟩ := q
      refine thnF (keepT t7 (pg.run _ s7 _ C7 x u _ (I7.pinned (fok I7 n7) (T.obj _ _ st7)) r7 (step x C7 y7))) fun _ s8 q => ?_
      obtain ⟨t8, σ8, C8, I8, hw8, q8⟩ := q
      refine wpAny_tests_nil ?_
      simp only [if_true]
      have q8 : te σ8 C8 (fun y H4 => ∃ acc, H4 L = some (.lst acc) ∧ acc.length < sizeLine ∧ Nx (upd H4 L (.lst (acc ++ [y])))) := q8
      refine thnF (keepT t8 (pe _ s8 σ8 C8 _ t8 I8 q8)) fun v s10 q => ?_
      obtain ⟨t10, y, C10, I10, r10, acc, hD10, hz10, nx⟩ := q
      refine wpAny_mono (keepT t10 (app_ok (E := fun _ _ => False) (Q := fun v z => v = .none ∧ Inv (X.blk s3 H3 scope ce fp) ([] ++ pinsAt fp s7.heap) σ8 (upd C10 L (.lst (acc ++ [y]))) z) (X := X.blk s3 H3 scope ce fp) I10 hD10 hz10 r10 fun s11 I11 => ⟨rfl, I11⟩)) (fun v s11 q => ?_) fun _ _ z => z.elim
      obtain ⟨t11, _, I11⟩ := q
      obtain ⟨m', hm, w'⟩ := hNx _ nx
      have pin' : ∀ b ∈ fp, ∀ o, s7.heap.get? b = some o → s11.heap.get? b = some o ∧ (upd C10 L (.lst (acc ++ [y]))) b = none := fun b hb o e =>
        let z := I11.pin (b, o) (List.mem_append_right _ (List.mem_append_right _ (mem_pinsAt hb e)))
        ⟨z.1, z.2.1⟩
      have hl : (wipe σ (own.map (·.2))).length = σ8.length := by rw [← hw8, wipe_length]
      refine ⟨m', hm, t11, i + 1, _, (I11.unpinned (pins := [])).weak hl (fun j v e => ?_), T.keep _ _ _ st7 fun b hb o e => (pin' b hb o e).1, fun b hb => ?_, w'⟩
      · rw [← hw8] at e
        exact (wipe_some e).1
      · obtain ⟨o, e, _⟩ := T.obj _ _ st7 b hb
        exact (pin' b hb o e).2
  exact codeAny_compStart_list loop (T.self X.A 0 _ _ _ st4 loop)
/-- name = [..] on one line, the name a local -/
theorem ps_setLcT {i : Nat} {y : Str} {py : Pos} {elt tg iter : Expr} {scope : Scope} {own : List (Str × Nat)} {pos spos : Pos} {wi : TI} {g : TG} {te : TE} (calm : X.calm = true) (nd : X.N.Nodup) (hy : X.N[i]? = some y) (hyl : X.env.scope.names.lookup y = some .local)
    (hsw : swapsWith (.ListComp elt [⟨tg, iter, [], 0⟩] scope pos) (some (.Name y py)) spos.line X.env = pure true) (hi : PIK X tg iter wi) (ok : BlkOk X.N X.env.scope scope own)
    (hg : ∀ (s : Shared) (H : Hp) (C : Addr) (cl : List (Str × Addr)) (fp : List Addr), PG (X.blk s H scope (compEnvC scope cl C X.env) fp) tg g)
    (he : ∀ (s : Shared) (H : Hp) (C : Addr) (cl : List (Str × Addr)) (fp : List Addr), PET (X.blk s H scope (compEnvC scope cl C X.env) fp) elt te) (hs : ∀ x, foldedSetIterable iter X.env x = pure x) :
    PS X (.Assign [.Name y py] (.ListComp elt [⟨tg, iter, [], 0⟩] scope pos) spos) (tAsg (tLc wi g tYes te (own.map (·.2))) (gName i)) := by
  refine ⟨fun pins s σ H D I h => ?_⟩
  rw [exec_Assign_Name_used _ _ _ _ hsw]
  refine wpAny_bind (wpAny_standAt (wpAny_bind ?_))
  show wpAny _ X.A (do let _ ← comprehension (.ListComp elt [⟨tg, iter, [], 0⟩] scope pos) scope X.env (firstIterPos [⟨tg, iter, [], 0⟩] pos) (newList []) false (eval iter X.env) (some (assign (.Name y py) X.env))) _ _ s
  have h : tLc wi g tYes te (own.map (·.2)) σ H (fun x H1 => gName i x σ H1 D.nx) := h
  refine wpAny_bind (thn (lcT_core (Qf := fun _ z => SP X pins D .next z) calm nd I hi ok hg he hs h fun L C z m H' I' q hn f => ?_) fun _ z hq => wpAny_pure (wpAny_pure hq))
  show wpAny _ _ (assign (.Name y py) X.env (.ref L)) _ _ _
  refine wpAny_assign_Name (store_ok2 (v := V.ref L) I' nd hy (.inl hyl) rfl (fun s2 I2 sb2 => ?_) (.inr hyl))
  obtain ⟨a, sb, ha⟩ := sb2
  obtain ⟨f0, f1, f2, f3, f4, f5⟩ := f
  have nCa : C ≠ a := by
    rcases ha with e | e
    · rw [e]; exact f1
    · exact fun e2 => f4 y a e e2.symm
  exact ⟨m, hn.sameBut sb nCa, fun h3 sb3 => ⟨_, H', I2.turned (t' := s2.toks) (fun b o hb e => (sb3.2 b hb).trans e) f0 f1 f3 f4 f5, q⟩⟩
/-- over o.split(written text) -/
theorem pik_split {o tg : Expr} {to : TE} {y : Str} {j : Nat} {cp apos cpos : Pos} (ho : PE X o to)
    (hst : starEach [.Constant (.str y) j cp] X.env = [(false, eval (.Constant (.str y) j cp) X.env)]) (hbase : attributeBase o "split" X.env (eval o X.env) = eval o X.env) (hline : (apos.endLine == cpos.line) = true) :
    PIK X tg (.Call (.Attribute o "split" apos) [.Constant (.str y) j cp] [] cpos) (iList X.K (tM1 rSplit to (tC (.str y)))) := by
  intro pins s σ H R I h
  refine wpAny_mono (pek_split ho hst hbase hline I h) (fun v s1 q => ?_) fun _ _ z => z
  obtain ⟨hk, x, H1, I1, r1, a, e, ⟨xs, hq⟩, q⟩ := q
  subst e
  cases r1
  obtain ⟨its, rv, p, hz⟩ := I1.list hq
  refine ⟨hk, wpAny_pyIter_list p.isList ⟨s1.heap.objs.size, [s1.heap.objs.size], _, _, H1, rfl, I1.kept (t' := s1.toks) (fun b o e => Heap.get?_push_of_some _ e), turn_list a _, ⟨_, Heap.get?_push_size _ rfl, rfl, rfl⟩, fun b hb => ?_, q⟩⟩
  have e : b = s1.heap.objs.size := by simpa using hb
  subst e
  exact I1.fpOk (Nat.le_refl _) (I1.hok.fresh (Nat.le_refl _))
end
section
variable {Z : Zc}
theorem split_si {to : TE} {mo : ME} {y : Str} (h2 : SE Z to mo) : SI Z (iList Z.K (tM1 rSplit to (tC (.str y)))) (iAny (mM1 fSplit mo (mC (.str y)))) := by
  intro g env σ I H R ds env' Rr hm k
  unfold iAny at hm
  obtain ⟨⟨d, en⟩, e1, hm⟩ := Option.bind_eq_some_iff.mp hm
  have hd : ∃ xs, d = .lst xs := by
    obtain ⟨x, e2, y', q1, q2, q3⟩ := mM1_inv e1
    unfold fSplit at q3
    split at q3
    · cases q3; exact ⟨_, rfl⟩
    · cases q3
  obtain ⟨xs, rfl⟩ := hd
  cases hm
  refine (split_sf h2).se g env σ I H _ _ _ Rr e1 fun v I1 H1 R1 s1 rv => ?_
  obtain ⟨a, vs, rfl, ha, ra⟩ := rv.lst_inv
  exact ⟨a, rfl, ⟨vs, SqL.of (R1.sub _ _ ha)⟩, k _ I1 H1 R1 s1 (wd_list (SqL.of ha) ra)⟩
/-- x = [elt for y in o.split(written text)], elt wants a token -/
theorem sv_asgLcT {i : Nat} {x : Str} {py : Pos} {elt tg o : Expr} {y : Str} {j : Nat} {cp apos cpos : Pos} {scope : Scope} {own : List (Str × Nat)} {pos spos : Pos} {mo : ME} {ix : List Nat} {gf : D → En → Option En} {me : ME} (hN : Z.N[i]? = some x) (hx : Z.sc.names.lookup x = some .local)
    (hk : Z.sc.kind = .function) (ho : EV Z o mo) (ok : BlkOk Z.N Z.sc scope own) (hg : GV (ZB Z scope) tg ix gf) (he : EVT (ZB Z scope) elt me)
    (hl : (py.line == pos.line) = true := by rfl) (ha : (scope.names.any fun (n, k) => n == x && (k == .local || k == .cell)) = false := by decide +kernel)
    (hnd : (own.map (·.2)).Nodup := by decide) (hix : ∀ i ∈ ix, i ∈ own.map (·.2) := by decide) (hs : ∀ env z, foldedSetIterable (.Call (.Attribute o "split" apos) [.Constant (.str y) j cp] [] cpos) env z = pure z := by intro _ _; rfl)
    (hst : ∀ env, starEach [.Constant (.str y) j cp] env = [(false, eval (.Constant (.str y) j cp) env)] := by intro _; rfl) (hbase : ∀ env, attributeBase o "split" env (eval o env) = eval o env := by intro _; rfl) (hline : (apos.endLine == cpos.line) = true := by rfl) :
    SV Z (.Assign [.Name x py] (.ListComp elt [⟨tg, .Call (.Attribute o "split" apos) [.Constant (.str y) j cp] [] cpos, [], 0⟩] scope pos) spos) (mAsgF i (mLc (own.map (·.2)) (iAny (mM1 fSplit mo (mC (.str y)))) gf mYes me)) := by
  obtain ⟨t, h1, h2⟩ := ho
  obtain ⟨gt, g1, g2⟩ := hg
  obtain ⟨te, e1, e2⟩ := he
  have yes : ST Z tYes mYes := fun g env σ I H Q b env' R hm k => by cases hm; exact k I H R (Same.refl _)
  refine ⟨tAsg (tLc (iList Z.K (tM1 rSplit t (tC (.str y)))) gt tYes te (own.map (·.2))) (gName i), fun X k => ?_, fun g env σ I H D fl R hm k => ?_⟩
  · have pk := pik_split (X := X) (tg := tg) (h1 X k) (hst _) (hbase _) hline
    rw [k.K] at pk
    exact ps_setLcT k.calm k.nd (by rw [k.N]; exact hN) (by rw [k.sc]; exact hx) (sw_true (by rw [k.sc]; exact hk) (by rw [k.sc]; exact hx) hl ha) pk (by rw [k.N, k.sc]; exact ok) (fun s H C cl fp => g1 _ (inB k s H C cl fp)) (fun s H C cl fp => e1 _ (inB k s H C cl fp)) (hs _)
  · unfold mAsgF at hm
    cases q1 : mLc (own.map (·.2)) (iAny (mM1 fSplit mo (mC (.str y)))) gf mYes me env with
    | none => rw [q1] at hm; cases hm
    | some r =>
      rw [q1] at hm
      simp only [Option.bind_some] at hm
      split at hm
      · rename_i hi
        cases hm
        exact lc_sf (scope := scope) hnd hix (split_si h2) g2 yes e2 g env σ I H _ r.1 r.2 R q1 fun a o I1 H1 R1 s1 n ro => k _ I1 H1 (R1.setOwn (by rw [← R1.len]; exact hi) n ro) s1
      · cases hm
end
/-- a def that wants a token, in a program -/
structure FnCT (c : Pc) (k : Nat) (x : Str) (N : List Str) (np : Nat) (mf : MS) : Prop where
  ex : ∃ (f : Addr) (fd : FuncData) (ps : List Str), FnGT c.P c.w c.K c.mg c.base CX0 k f fd ps (spM c.K c.cl N np mf) ∧ c.mg x = some (.ref f) ∧ PySem.W.keepIn c.K (.ref f) = true ∧ Binds c.K fd ps []
theorem FnGT.mono {P : Program} {w : World} {K : PySem.W.Frag} {mg : Str → Option Value} {base : Heap} {CX : CXT} {j k : Nat} {f : Addr} {fd : FuncData} {ps : List Str} {sp : Sp} (F : FnGT P w K mg base CX j f fd ps sp) (h : j ≤ k) : FnGT P w K mg base CX k f fd ps sp := ⟨F.ar, fun h0 hr => F.go h0 (hr.mono h)⟩
section
variable {c : Pc} {j k np : Nat} {x m : Str} {N M : List Str} {mf : MS} {sc s1 : Scope} {me : Option (Addr × Addr)}
theorem FnCT.z (F : FnCT c j x M np mf) (h : j ≤ k) : FnZT (c.z k N sc me) x M np mf := let ⟨f, fd, ps, h1, h2⟩ := F.ex; ⟨f, fd, ps, h1.mono h, h2⟩
theorem FnCT.zb (F : FnCT c j x M np mf) (h : j ≤ k) : FnZT (ZB (c.z k N sc me) s1) x M np mf := let ⟨f, fd, ps, h1, h2⟩ := F.ex; ⟨f, fd, ps, h1.mono h, h2⟩
end
end Q
namespace Law
open PySem L2 Q
def top (i : Nat) : Stmt := PySem.Challenge.pw_clearfloor_k24_reports_are_read_back.main.body.getD i (.Pass ⟨0, 0, 0, 0⟩)
structure Txt (c : Pc) : Prop where
  b_any : c.mg "any" = none
  b_enumerate : c.mg "enumerate" = none
  b_int : c.mg "int" = none
  b_isinstance : c.mg "isinstance" = none
  b_len : c.mg "len" = none
  b_list : c.mg "list" = none
  b_range : c.mg "range" = none
  b_str : c.mg "str" = none
  b_tuple : c.mg "tuple" = none
  c_FIGURES : ∃ t, c.mg "FIGURES" = some (.str "0123456789" t)
  c_MOST_FIGURES : ∃ t, c.mg "MOST_FIGURES" = some (.int 6 t)
  c_STATIONS : ∃ t, c.mg "STATIONS" = some (.str "ABCDEFGH" t)
/-! _law_cell -/
abbrev s_law_cell : Stmt := top 23
abbrev n_law_cell : List Str := ["script", "k"]
theorem sc_law_cell : FnScope n_law_cell ["script", "k"] (defScope s_law_cell) := ⟨rfl, rfl, rfl, by decide +kernel, rfl, by decide +kernel, by decide +kernel⟩
def m_law_cell : MS :=
    (mSeq (mIfS (mTest (mBin dLt (lVar 1) (lFix (mBi dLen (bCons (lVar 0) bNil)))))
    (mRet (mBin dIx (lVar 0) (lVar 1)))
    mNext)
    (mRet (mC (.int 0))))
theorem b_law_cell {c : Pc} (T : Txt c) : BV (c.z 0 n_law_cell (defScope s_law_cell)) (defBody s_law_cell) m_law_cell :=
    (bv_cons (sv_if (tv_cmp (fun _ _ => op_lt) ok_cmp (lv_var (i := 1) rfl (by first | exact Or.inl rfl | exact Or.inr (Or.inl rfl) | exact Or.inr (Or.inr rfl))) (lv_ev (ev_callB (fun _ h => cr_len h) ok_len (by rfl) T.b_len (by decide +kernel) (al_cons (lv_var (i := 0) rfl (by first | exact Or.inl rfl | exact Or.inr (Or.inl rfl) | exact Or.inr (Or.inr rfl))) al_nil))) (nomark _))
    (bv_one (sv_ret (ev_ix (lv_var (i := 0) rfl (by first | exact Or.inl rfl | exact Or.inr (Or.inl rfl) | exact Or.inr (Or.inr rfl))) (lv_var (i := 1) rfl (by first | exact Or.inl rfl | exact Or.inr (Or.inl rfl) | exact Or.inr (Or.inr rfl))))))
    bv_nil)
    (bv_one (sv_ret ev_int)))
theorem g_law_cell {c : Pc} {f : Addr} {fd : FuncData} (T : Txt c) (F : Fun c.K "_law_cell" "_law_cell" s_law_cell f fd) (hm : c.mg "_law_cell" = some (.ref f)) : FnC c 1 "_law_cell" n_law_cell 2 m_law_cell :=
  ⟨f, fd, ["script", "k"], fn_ok F sc_law_cell (b_law_cell T), hm, F.kp, F.binds (ps := ["script", "k"]) fun _ _ _ _ _ _ us hl => match us, hl with | [_, _], _ => rfl⟩
/-! _law_digits -/
abbrev s_law_digits : Stmt := top 24
abbrev n_law_digits : List Str := ["script", "first", "last", "digits", "k", "cell", "turn", "seed"]
theorem sc_law_digits : FnScope n_law_digits ["script", "first", "last"] (defScope s_law_digits) := ⟨rfl, rfl, rfl, by decide +kernel, rfl, by decide +kernel, by decide +kernel⟩
def m_law_digits : MS :=
    (mSeq (mAsgF 3 (mLst aNil))
    (mSeq (mForS (iR2 (aCons (mVar 1) (aCons (mVar 2) aNil))) (gN 4)
    (mSeq (mAsg 5 (mCallV n_law_cell 2 m_law_cell (cImm (mVar 0) (cImm (mVar 4) cNil))))
    (mSeq (mIfS (mTest (mBin dLt (lVar 5) (lFix (mC (.int 0)))))
    (mAsg 5 (mBin dSub (lFix (mC (.int 1))) (lFix (mBin dMul (lFix (mC (.int 2))) (lVar 5)))))
    mNext)
    (mIfS (mTest (mBin dGe (lVar 5) (lFix (mBin dPow (lFix (mC (.int 10))) (lFix (mC (.int 18)))))))
    (mForS (iR1 (aCons (mC (.int 60)) aNil)) (gN 6)
    (mIfS (mTest (mBin dGt (lVar 5) (lFix (mC (.int 0)))))
    (mSeq (mApp 3 (mBin dMod (lFix (mBi dInt (bCons (lVar 5) bNil))) (lFix (mC (.int 1000)))))
    (mAsg 5 (mBin dDiv (lVar 5) (lFix (mC (.int 1000))))))
    mNext))
    (mSeq (mAsg 7 (mBin dMod (lFix (mBi dInt (bCons (lFix (mBin dAdd (lFix (mBin dAdd (lFix (mBin dMul (lVar 5) (lFix (mC (.int 48271))))) (lFix (mBin dMul (lVar 4) (lFix (mC (.int 69621))))))) (lFix (mC (.int 11))))) bNil))) (lFix (mC (.int 2147483647)))))
    (mForS (iR1 (aCons (mC (.int 12)) aNil)) (gN 6)
    (mSeq (mAsg 7 (mBin dMod (lFix (mBi dInt (bCons (lFix (mBin dAdd (lFix (mBin dAdd (lFix (mBin dMul (lVar 7) (lFix (mC (.int 16807))))) (lFix (mBin dMul (lFix (mC (.int 7))) (lVar 6))))) (lFix (mC (.int 1))))) bNil))) (lFix (mC (.int 2147483647)))))
    (mApp 3 (mBin dMod (lFix (mBi dInt (bCons (lFix (mBin dDiv (lVar 7) (lFix (mC (.int 997))))) bNil))) (lFix (mC (.int 1000))))))))))))
    (mRetO 3)))
theorem b_law_digits {c : Pc} (T : Txt c) (G_law_cell : FnC c 1 "_law_cell" n_law_cell 2 m_law_cell) : BV (c.z 1 n_law_digits (defScope s_law_digits)) (defBody s_law_digits) m_law_digits :=
    (bv_cons (sv_asgF (i := 3) rfl (by first | exact Or.inr rfl | exact Or.inl ⟨rfl, Or.inl rfl⟩ | exact Or.inl ⟨rfl, Or.inr rfl⟩) (ef_lst ae_nil))
    (bv_cons (sv_for (iv_rng2 (by rfl) T.b_range (ae_cons (ev_var (i := 1) rfl (by first | exact Or.inl rfl | exact Or.inr (Or.inl rfl) | exact Or.inr (Or.inr rfl))) (ae_cons (ev_var (i := 2) rfl (by first | exact Or.inl rfl | exact Or.inr (Or.inl rfl) | exact Or.inr (Or.inr rfl))) ae_nil))) (gv_name (i := 4) rfl (by first | exact Or.inr rfl | exact Or.inl ⟨rfl, Or.inl rfl⟩ | exact Or.inl ⟨rfl, Or.inr rfl⟩))
    (bv_cons (sv_asg (i := 5) rfl (by first | exact Or.inr rfl | exact Or.inl ⟨rfl, Or.inl rfl⟩ | exact Or.inl ⟨rfl, Or.inr rfl⟩) (ev_call (G_law_cell.z (by decide)) (by rfl) (av_imm (ev_var (i := 0) rfl (by first | exact Or.inl rfl | exact Or.inr (Or.inl rfl) | exact Or.inr (Or.inr rfl))) (av_imm (ev_var (i := 4) rfl (by first | exact Or.inl rfl | exact Or.inr (Or.inl rfl) | exact Or.inr (Or.inr rfl))) av_nil))))
    (bv_cons (sv_if (tv_cmp (fun _ _ => op_lt) ok_cmp (lv_var (i := 5) rfl (by first | exact Or.inl rfl | exact Or.inr (Or.inl rfl) | exact Or.inr (Or.inr rfl))) (lv_ev ev_int) (nomark _))
    (bv_one (sv_asg (i := 5) rfl (by first | exact Or.inr rfl | exact Or.inl ⟨rfl, Or.inl rfl⟩ | exact Or.inl ⟨rfl, Or.inr rfl⟩) (ev_op (fun _ _ => op_sub) ok_sub (lv_ev ev_int) (lv_ev (ev_op (fun _ _ => op_mul) ok_mul (lv_ev ev_int) (lv_var (i := 5) rfl (by first | exact Or.inl rfl | exact Or.inr (Or.inl rfl) | exact Or.inr (Or.inr rfl))))))))
    bv_nil)
    (bv_one (sv_if (tv_cmp (fun _ _ => op_ge) ok_cmp (lv_var (i := 5) rfl (by first | exact Or.inl rfl | exact Or.inr (Or.inl rfl) | exact Or.inr (Or.inr rfl))) (lv_ev (ev_op (fun _ _ => op_pow) ok_pow (lv_ev ev_int) (lv_ev ev_int))) (nomark _))
    (bv_one (sv_for (iv_rng1 (by rfl) T.b_range (ae_cons ev_int ae_nil)) (gv_name (i := 6) rfl (by first | exact Or.inr rfl | exact Or.inl ⟨rfl, Or.inl rfl⟩ | exact Or.inl ⟨rfl, Or.inr rfl⟩))
    (bv_one (sv_if (tv_cmp (fun _ _ => op_gt) ok_cmp (lv_var (i := 5) rfl (by first | exact Or.inl rfl | exact Or.inr (Or.inl rfl) | exact Or.inr (Or.inr rfl))) (lv_ev ev_int) (nomark _))
    (bv_cons (sv_append (i := 3) rfl (by first | exact Or.inl rfl | exact Or.inr (Or.inl rfl) | exact Or.inr (Or.inr rfl)) (ev_op (fun _ _ => op_mod) ok_mod (lv_ev (ev_callT (fun _ _ => cr_int) ok_int (by rfl) T.b_int (by decide +kernel) (al_cons (lv_var (i := 5) rfl (by first | exact Or.inl rfl | exact Or.inr (Or.inl rfl) | exact Or.inr (Or.inr rfl))) al_nil))) (lv_ev ev_int)))
    (bv_one (sv_asg (i := 5) rfl (by first | exact Or.inr rfl | exact Or.inl ⟨rfl, Or.inl rfl⟩ | exact Or.inl ⟨rfl, Or.inr rfl⟩) (ev_op (fun _ _ => op_fdiv) ok_div (lv_var (i := 5) rfl (by first | exact Or.inl rfl | exact Or.inr (Or.inl rfl) | exact Or.inr (Or.inr rfl))) (lv_ev ev_int)))))
    bv_nil))))
    (bv_cons (sv_asg (i := 7) rfl (by first | exact Or.inr rfl | exact Or.inl ⟨rfl, Or.inl rfl⟩ | exact Or.inl ⟨rfl, Or.inr rfl⟩) (ev_op (fun _ _ => op_mod) ok_mod (lv_ev (ev_callT (fun _ _ => cr_int) ok_int (by rfl) T.b_int (by decide +kernel) (al_cons (lv_ev (ev_op (fun _ _ => or_add) ok_add (lv_ev (ev_op (fun _ _ => or_add) ok_add (lv_ev (ev_op (fun _ _ => op_mul) ok_mul (lv_var (i := 5) rfl (by first | exact Or.inl rfl | exact Or.inr (Or.inl rfl) | exact Or.inr (Or.inr rfl))) (lv_ev ev_int))) (lv_ev (ev_op (fun _ _ => op_mul) ok_mul (lv_var (i := 4) rfl (by first | exact Or.inl rfl | exact Or.inr (Or.inl rfl) | exact Or.inr (Or.inr rfl))) (lv_ev ev_int))))) (lv_ev ev_int))) al_nil))) (lv_ev ev_int)))
    (bv_one (sv_for (iv_rng1 (by rfl) T.b_range (ae_cons ev_int ae_nil)) (gv_name (i := 6) rfl (by first | exact Or.inr rfl | exact Or.inl ⟨rfl, Or.inl rfl⟩ | exact Or.inl ⟨rfl, Or.inr rfl⟩))
    (bv_cons (sv_asg (i := 7) rfl (by first | exact Or.inr rfl | exact Or.inl ⟨rfl, Or.inl rfl⟩ | exact Or.inl ⟨rfl, Or.inr rfl⟩) (ev_op (fun _ _ => op_mod) ok_mod (lv_ev (ev_callT (fun _ _ => cr_int) ok_int (by rfl) T.b_int (by decide +kernel) (al_cons (lv_ev (ev_op (fun _ _ => or_add) ok_add (lv_ev (ev_op (fun _ _ => or_add) ok_add (lv_ev (ev_op (fun _ _ => op_mul) ok_mul (lv_var (i := 7) rfl (by first | exact Or.inl rfl | exact Or.inr (Or.inl rfl) | exact Or.inr (Or.inr rfl))) (lv_ev ev_int))) (lv_ev (ev_op (fun _ _ => op_mul) ok_mul (lv_ev ev_int) (lv_var (i := 6) rfl (by first | exact Or.inl rfl | exact Or.inr (Or.inl rfl) | exact Or.inr (Or.inr rfl))))))) (lv_ev ev_int))) al_nil))) (lv_ev ev_int)))
    (bv_one (sv_append (i := 3) rfl (by first | exact Or.inl rfl | exact Or.inr (Or.inl rfl) | exact Or.inr (Or.inr rfl)) (ev_op (fun _ _ => op_mod) ok_mod (lv_ev (ev_callT (fun _ _ => cr_int) ok_int (by rfl) T.b_int (by decide +kernel) (al_cons (lv_ev (ev_op (fun _ _ => op_fdiv) ok_div (lv_var (i := 7) rfl (by first | exact Or.inl rfl | exact Or.inr (Or.inl rfl) | exact Or.inr (Or.inr rfl))) (lv_ev ev_int))) al_nil))) (lv_ev ev_int)))))))))))))
    (bv_one (sv_retO (i := 3) rfl (by first | exact Or.inl rfl | exact Or.inr (Or.inl rfl) | exact Or.inr (Or.inr rfl))))))
theorem g_law_digits {c : Pc} {f : Addr} {fd : FuncData} (T : Txt c) (F : Fun c.K "_law_digits" "_law_digits" s_law_digits f fd) (hm : c.mg "_law_digits" = some (.ref f)) (G_law_cell : FnC c 1 "_law_cell" n_law_cell 2 m_law_cell) : FnC c 2 "_law_digits" n_law_digits 3 m_law_digits :=
  ⟨f, fd, ["script", "first", "last"], fn_ok F sc_law_digits (b_law_digits T G_law_cell), hm, F.kp, F.binds (ps := ["script", "first", "last"]) fun _ _ _ _ _ _ us hl => match us, hl with | [_, _, _], _ => rfl⟩
/-! _law_draw -/
abbrev s_law_draw : Stmt := top 25
abbrev n_law_draw : List Str := ["box", "many", "at"]
theorem sc_law_draw : FnScope n_law_draw ["box", "many"] (defScope s_law_draw) := ⟨rfl, rfl, rfl, by decide +kernel, rfl, by decide +kernel, by decide +kernel⟩
def m_law_draw : MS :=
    (mSeq (mAsg 2 (mBin dIx (lVar 0) (lFix (mC (.int 1)))))
    (mSeq (mSetI 0 (mBin dAdd (lVar 2) (lFix (mC (.int 1)))) (mC (.int 1)))
    (mSeq (mIfS (mTest (mBin dLt (lVar 2) (lFix (mBi dLen (bCons (lFix (mBin dIx (lVar 0) (lFix (mC (.int 0))))) bNil)))))
    (mRet (mBin dMod (lFix (mBi dInt (bCons (lFix (mBin dIx (lFix (mBin dIx (lVar 0) (lFix (mC (.int 0))))) (lVar 2))) bNil))) (lVar 1)))
    mNext)
    (mRet (mC (.int 0))))))
theorem b_law_draw {c : Pc} (T : Txt c) : BV (c.z 0 n_law_draw (defScope s_law_draw)) (defBody s_law_draw) m_law_draw :=
    (bv_cons (sv_asg (i := 2) rfl (by first | exact Or.inr rfl | exact Or.inl ⟨rfl, Or.inl rfl⟩ | exact Or.inl ⟨rfl, Or.inr rfl⟩) (ev_ix (lv_var (i := 0) rfl (by first | exact Or.inl rfl | exact Or.inr (Or.inl rfl) | exact Or.inr (Or.inr rfl))) (lv_ev ev_int)))
    (bv_cons (sv_setI (i := 0) rfl (by first | exact Or.inl rfl | exact Or.inr (Or.inl rfl) | exact Or.inr (Or.inr rfl)) (ev_op (fun _ _ => or_add) ok_add (lv_var (i := 2) rfl (by first | exact Or.inl rfl | exact Or.inr (Or.inl rfl) | exact Or.inr (Or.inr rfl))) (lv_ev ev_int)) ev_int)
    (bv_cons (sv_if (tv_cmp (fun _ _ => op_lt) ok_cmp (lv_var (i := 2) rfl (by first | exact Or.inl rfl | exact Or.inr (Or.inl rfl) | exact Or.inr (Or.inr rfl))) (lv_ev (ev_callB (fun _ h => cr_len h) ok_len (by rfl) T.b_len (by decide +kernel) (al_cons (lv_ev (ev_ix (lv_var (i := 0) rfl (by first | exact Or.inl rfl | exact Or.inr (Or.inl rfl) | exact Or.inr (Or.inr rfl))) (lv_ev ev_int))) al_nil))) (nomark _))
    (bv_one (sv_ret (ev_op (fun _ _ => op_mod) ok_mod (lv_ev (ev_callT (fun _ _ => cr_int) ok_int (by rfl) T.b_int (by decide +kernel) (al_cons (lv_ev (ev_ix (lv_ev (ev_ix (lv_var (i := 0) rfl (by first | exact Or.inl rfl | exact Or.inr (Or.inl rfl) | exact Or.inr (Or.inr rfl))) (lv_ev ev_int))) (lv_var (i := 2) rfl (by first | exact Or.inl rfl | exact Or.inr (Or.inl rfl) | exact Or.inr (Or.inr rfl))))) al_nil))) (lv_var (i := 1) rfl (by first | exact Or.inl rfl | exact Or.inr (Or.inl rfl) | exact Or.inr (Or.inr rfl))))))
    bv_nil)
    (bv_one (sv_ret ev_int)))))
theorem g_law_draw {c : Pc} {f : Addr} {fd : FuncData} (T : Txt c) (F : Fun c.K "_law_draw" "_law_draw" s_law_draw f fd) (hm : c.mg "_law_draw" = some (.ref f)) : FnC c 1 "_law_draw" n_law_draw 2 m_law_draw :=
  ⟨f, fd, ["box", "many"], fn_ok F sc_law_draw (b_law_draw T), hm, F.kp, F.binds (ps := ["box", "many"]) fun _ _ _ _ _ _ us hl => match us, hl with | [_, _], _ => rfl⟩
/-! _law_place -/
abbrev s_law_place : Stmt := top 26
abbrev n_law_place : List Str := ["box"]
theorem sc_law_place : FnScope n_law_place ["box"] (defScope s_law_place) := ⟨rfl, rfl, rfl, by decide +kernel, rfl, by decide +kernel, by decide +kernel⟩
def m_law_place : MS :=
    (mRet (mTup (aCons (mCallV n_law_draw 2 m_law_draw (cIo 0 (cImm (mC (.int 16)) cNil))) (aCons (mCallV n_law_draw 2 m_law_draw (cIo 0 (cImm (mC (.int 16)) cNil))) aNil))))
theorem b_law_place {c : Pc} (T : Txt c) (G_law_draw : FnC c 1 "_law_draw" n_law_draw 2 m_law_draw) : BV (c.z 1 n_law_place (defScope s_law_place)) (defBody s_law_place) m_law_place :=
    (bv_one (sv_ret (ev_tup (ae_cons (ev_call (G_law_draw.z (by decide)) (by rfl) (av_io (i := 0) rfl (by first | exact Or.inl rfl | exact Or.inr (Or.inl rfl) | exact Or.inr (Or.inr rfl)) (av_imm ev_int av_nil))) (ae_cons (ev_call (G_law_draw.z (by decide)) (by rfl) (av_io (i := 0) rfl (by first | exact Or.inl rfl | exact Or.inr (Or.inl rfl) | exact Or.inr (Or.inr rfl)) (av_imm ev_int av_nil))) ae_nil)))))
theorem g_law_place {c : Pc} {f : Addr} {fd : FuncData} (T : Txt c) (F : Fun c.K "_law_place" "_law_place" s_law_place f fd) (hm : c.mg "_law_place" = some (.ref f)) (G_law_draw : FnC c 1 "_law_draw" n_law_draw 2 m_law_draw) : FnC c 2 "_law_place" n_law_place 1 m_law_place :=
  ⟨f, fd, ["box"], fn_ok F sc_law_place (b_law_place T G_law_draw), hm, F.kp, F.binds (ps := ["box"]) fun _ _ _ _ _ _ us hl => match us, hl with | [_], _ => rfl⟩
/-! _law_number -/
abbrev s_law_number : Stmt := top 27
abbrev n_law_number : List Str := ["box", "kind"]
theorem sc_law_number : FnScope n_law_number ["box"] (defScope s_law_number) := ⟨rfl, rfl, rfl, by decide +kernel, rfl, by decide +kernel, by decide +kernel⟩
def m_law_number : MS :=
    (mSeq (mAsg 1 (mCallV n_law_draw 2 m_law_draw (cIo 0 (cImm (mC (.int 3)) cNil))))
    (mSeq (mIfS (mTest (mBin (dEqv false) (lVar 1) (lFix (mC (.int 0)))))
    (mRet (mCallV n_law_draw 2 m_law_draw (cIo 0 (cImm (mC (.int 10)) cNil))))
    mNext)
    (mSeq (mIfS (mTest (mBin (dEqv false) (lVar 1) (lFix (mC (.int 1)))))
    (mRet (mBin dAdd (lFix (mBin dMul (lFix (mCallV n_law_draw 2 m_law_draw (cIo 0 (cImm (mC (.int 1000)) cNil)))) (lFix (mC (.int 1000))))) (lFix (mCallV n_law_draw 2 m_law_draw (cIo 0 (cImm (mC (.int 1000)) cNil))))))
    mNext)
    (mRet (mCallV n_law_draw 2 m_law_draw (cIo 0 (cImm (mC (.int 1000)) cNil)))))))
theorem b_law_number {c : Pc} (T : Txt c) (G_law_draw : FnC c 1 "_law_draw" n_law_draw 2 m_law_draw) : BV (c.z 1 n_law_number (defScope s_law_number)) (defBody s_law_number) m_law_number :=
    (bv_cons (sv_asg (i := 1) rfl (by first | exact Or.inr rfl | exact Or.inl ⟨rfl, Or.inl rfl⟩ | exact Or.inl ⟨rfl, Or.inr rfl⟩) (ev_call (G_law_draw.z (by decide)) (by rfl) (av_io (i := 0) rfl (by first | exact Or.inl rfl | exact Or.inr (Or.inl rfl) | exact Or.inr (Or.inr rfl)) (av_imm ev_int av_nil))))
    (bv_cons (sv_if (tv_cmp (fun _ h => or_eq h) ok_eq (lv_var (i := 1) rfl (by first | exact Or.inl rfl | exact Or.inr (Or.inl rfl) | exact Or.inr (Or.inr rfl))) (lv_ev ev_int) (nomark _))
    (bv_one (sv_ret (ev_call (G_law_draw.z (by decide)) (by rfl) (av_io (i := 0) rfl (by first | exact Or.inl rfl | exact Or.inr (Or.inl rfl) | exact Or.inr (Or.inr rfl)) (av_imm ev_int av_nil)))))
    bv_nil)
    (bv_cons (sv_if (tv_cmp (fun _ h => or_eq h) ok_eq (lv_var (i := 1) rfl (by first | exact Or.inl rfl | exact Or.inr (Or.inl rfl) | exact Or.inr (Or.inr rfl))) (lv_ev ev_int) (nomark _))
    (bv_one (sv_ret (ev_op (fun _ _ => or_add) ok_add (lv_ev (ev_op (fun _ _ => op_mul) ok_mul (lv_ev (ev_call (G_law_draw.z (by decide)) (by rfl) (av_io (i := 0) rfl (by first | exact Or.inl rfl | exact Or.inr (Or.inl rfl) | exact Or.inr (Or.inr rfl)) (av_imm ev_int av_nil)))) (lv_ev ev_int))) (lv_ev (ev_call (G_law_draw.z (by decide)) (by rfl) (av_io (i := 0) rfl (by first | exact Or.inl rfl | exact Or.inr (Or.inl rfl) | exact Or.inr (Or.inr rfl)) (av_imm ev_int av_nil)))))))
    bv_nil)
    (bv_one (sv_ret (ev_call (G_law_draw.z (by decide)) (by rfl) (av_io (i := 0) rfl (by first | exact Or.inl rfl | exact Or.inr (Or.inl rfl) | exact Or.inr (Or.inr rfl)) (av_imm ev_int av_nil))))))))
theorem g_law_number {c : Pc} {f : Addr} {fd : FuncData} (T : Txt c) (F : Fun c.K "_law_number" "_law_number" s_law_number f fd) (hm : c.mg "_law_number" = some (.ref f)) (G_law_draw : FnC c 1 "_law_draw" n_law_draw 2 m_law_draw) : FnC c 2 "_law_number" n_law_number 1 m_law_number :=
  ⟨f, fd, ["box"], fn_ok F sc_law_number (b_law_number T G_law_draw), hm, F.kp, F.binds (ps := ["box"]) fun _ _ _ _ _ _ us hl => match us, hl with | [_], _ => rfl⟩
/-! _law_robot -/
abbrev s_law_robot : Stmt := top 28
abbrev n_law_robot : List Str := ["box", "kind", "place", "way", "order", "loaded", "k"]
theorem sc_law_robot : FnScope n_law_robot ["box"] (defScope s_law_robot) := ⟨rfl, rfl, rfl, by decide +kernel, rfl, by decide +kernel, by decide +kernel⟩
def m_law_robot : MS :=
    (mSeq (mAsg 1 (mCallV n_law_draw 2 m_law_draw (cIo 0 (cImm (mC (.int 6)) cNil))))
    (mSeq (mAsg 2 (mC .non))
    (mSeq (mAsg 3 (mLst aNil))
    (mSeq (mIfS (mTest (mBin dGt (lVar 1) (lFix (mC (.int 0)))))
    (mAsg 2 (mCallV n_law_place 1 m_law_place (cIo 0 cNil)))
    mNext)
    (mSeq (mIfS (mTest (mBin dGt (lVar 1) (lFix (mC (.int 1)))))
    (mAsgF 3 (mLc [6] (iR1 (aCons (mBin dAdd (lFix (mC (.int 1))) (lFix (mCallV n_law_draw 2 m_law_draw (cIo 0 (cImm (mC (.int 4)) cNil))))) aNil)) (gN 6) mYes (mCallV n_law_place 1 m_law_place (cIo 0 cNil))))
    mNext)
    (mSeq (mAsg 4 (mC .non))
    (mSeq (mAsg 5 (mC (.bl false)))
    (mSeq (mIfS (mTest (mBin (dEqv false) (lFix (mCallV n_law_draw 2 m_law_draw (cIo 0 (cImm (mC (.int 2)) cNil)))) (lFix (mC (.int 0)))))
    (mSeq (mAsg 4 (mCallV n_law_number 1 m_law_number (cIo 0 cNil)))
    (mAsg 5 (mBin (dEqv false) (lFix (mCallV n_law_draw 2 m_law_draw (cIo 0 (cImm (mC (.int 2)) cNil)))) (lFix (mC (.int 0))))))
    mNext)
    (mRet (mTup (aCons (mVar 2) (aCons (mBin (dEqv false) (lFix (mCallV n_law_draw 2 m_law_draw (cIo 0 (cImm (mC (.int 2)) cNil)))) (lFix (mC (.int 0)))) (aCons (mVar 4) (aCons (mVar 5) (aCons (mVar 3) aNil)))))))))))))))
theorem b_law_robot {c : Pc} (T : Txt c) (G_law_draw : FnC c 1 "_law_draw" n_law_draw 2 m_law_draw) (G_law_place : FnC c 2 "_law_place" n_law_place 1 m_law_place) (G_law_number : FnC c 2 "_law_number" n_law_number 1 m_law_number) : BV (c.z 2 n_law_robot (defScope s_law_robot)) (defBody s_law_robot) m_law_robot :=
    (bv_cons (sv_asg (i := 1) rfl (by first | exact Or.inr rfl | exact Or.inl ⟨rfl, Or.inl rfl⟩ | exact Or.inl ⟨rfl, Or.inr rfl⟩) (ev_call (G_law_draw.z (by decide)) (by rfl) (av_io (i := 0) rfl (by first | exact Or.inl rfl | exact Or.inr (Or.inl rfl) | exact Or.inr (Or.inr rfl)) (av_imm ev_int av_nil))))
    (bv_cons (sv_asg (i := 2) rfl (by first | exact Or.inr rfl | exact Or.inl ⟨rfl, Or.inl rfl⟩ | exact Or.inl ⟨rfl, Or.inr rfl⟩) ev_non)
    (bv_cons (sv_asg (i := 3) rfl (by first | exact Or.inr rfl | exact Or.inl ⟨rfl, Or.inl rfl⟩ | exact Or.inl ⟨rfl, Or.inr rfl⟩) (ef_lst ae_nil).ev)
    (bv_cons (sv_if (tv_cmp (fun _ _ => op_gt) ok_cmp (lv_var (i := 1) rfl (by first | exact Or.inl rfl | exact Or.inr (Or.inl rfl) | exact Or.inr (Or.inr rfl))) (lv_ev ev_int) (nomark _))
    (bv_one (sv_asg (i := 2) rfl (by first | exact Or.inr rfl | exact Or.inl ⟨rfl, Or.inl rfl⟩ | exact Or.inl ⟨rfl, Or.inr rfl⟩) (ev_call (G_law_place.z (by decide)) (by rfl) (av_io (i := 0) rfl (by first | exact Or.inl rfl | exact Or.inr (Or.inl rfl) | exact Or.inr (Or.inr rfl)) av_nil))))
    bv_nil)
    (bv_cons (sv_if (tv_cmp (fun _ _ => op_gt) ok_cmp (lv_var (i := 1) rfl (by first | exact Or.inl rfl | exact Or.inr (Or.inl rfl) | exact Or.inr (Or.inr rfl))) (lv_ev ev_int) (nomark _))
    (bv_one (sv_asgLc (i := 3) (own := ([("k", 6)] : List (Str × Nat))) rfl rfl rfl (iv_rng1 (by rfl) T.b_range (ae_cons (ev_op (fun _ _ => or_add) ok_add (lv_ev ev_int) (lv_ev (ev_call (G_law_draw.z (by decide)) (by rfl) (av_io (i := 0) rfl (by first | exact Or.inl rfl | exact Or.inr (Or.inl rfl) | exact Or.inr (Or.inr rfl)) (av_imm ev_int av_nil))))) ae_nil)) (blkOk_by (N := n_law_robot) (sc := defScope s_law_robot) (own := ([("k", 6)] : List (Str × Nat))) (by decide +kernel)) (gv_name (i := 6) rfl (by first | exact Or.inr rfl | exact Or.inl ⟨rfl, Or.inl rfl⟩ | exact Or.inl ⟨rfl, Or.inr rfl⟩)) cv_nil (ev_call (G_law_place.zb (by decide)) (by rfl) (av_io (i := 0) rfl (by first | exact Or.inl rfl | exact Or.inr (Or.inl rfl) | exact Or.inr (Or.inr rfl)) av_nil)) (hl := by rfl) (ha := by decide +kernel)))
    bv_nil)
    (bv_cons (sv_asg (i := 4) rfl (by first | exact Or.inr rfl | exact Or.inl ⟨rfl, Or.inl rfl⟩ | exact Or.inl ⟨rfl, Or.inr rfl⟩) ev_non)
    (bv_cons (sv_asg (i := 5) rfl (by first | exact Or.inr rfl | exact Or.inl ⟨rfl, Or.inl rfl⟩ | exact Or.inl ⟨rfl, Or.inr rfl⟩) ev_bl)
    (bv_cons (sv_if (tv_cmp (fun _ h => or_eq h) ok_eq (lv_ev (ev_call (G_law_draw.z (by decide)) (by rfl) (av_io (i := 0) rfl (by first | exact Or.inl rfl | exact Or.inr (Or.inl rfl) | exact Or.inr (Or.inr rfl)) (av_imm ev_int av_nil)))) (lv_ev ev_int) (nomark _))
    (bv_cons (sv_asg (i := 4) rfl (by first | exact Or.inr rfl | exact Or.inl ⟨rfl, Or.inl rfl⟩ | exact Or.inl ⟨rfl, Or.inr rfl⟩) (ev_call (G_law_number.z (by decide)) (by rfl) (av_io (i := 0) rfl (by first | exact Or.inl rfl | exact Or.inr (Or.inl rfl) | exact Or.inr (Or.inr rfl)) av_nil)))
    (bv_one (sv_asg (i := 5) rfl (by first | exact Or.inr rfl | exact Or.inl ⟨rfl, Or.inl rfl⟩ | exact Or.inl ⟨rfl, Or.inr rfl⟩) (ev_cmp (fun _ h => or_eq h) ok_eq (lv_ev (ev_call (G_law_draw.z (by decide)) (by rfl) (av_io (i := 0) rfl (by first | exact Or.inl rfl | exact Or.inr (Or.inl rfl) | exact Or.inr (Or.inr rfl)) (av_imm ev_int av_nil)))) (lv_ev ev_int) (nomark _)))))
    bv_nil)
    (bv_one (sv_ret (ev_tup (ae_cons (ev_var (i := 2) rfl (by first | exact Or.inl rfl | exact Or.inr (Or.inl rfl) | exact Or.inr (Or.inr rfl))) (ae_cons (ev_cmp (fun _ h => or_eq h) ok_eq (lv_ev (ev_call (G_law_draw.z (by decide)) (by rfl) (av_io (i := 0) rfl (by first | exact Or.inl rfl | exact Or.inr (Or.inl rfl) | exact Or.inr (Or.inr rfl)) (av_imm ev_int av_nil)))) (lv_ev ev_int) (nomark _)) (ae_cons (ev_var (i := 4) rfl (by first | exact Or.inl rfl | exact Or.inr (Or.inl rfl) | exact Or.inr (Or.inr rfl))) (ae_cons (ev_var (i := 5) rfl (by first | exact Or.inl rfl | exact Or.inr (Or.inl rfl) | exact Or.inr (Or.inr rfl))) (ae_cons (ev_var (i := 3) rfl (by first | exact Or.inl rfl | exact Or.inr (Or.inl rfl) | exact Or.inr (Or.inr rfl))) ae_nil))))))))))))))))
theorem g_law_robot {c : Pc} {f : Addr} {fd : FuncData} (T : Txt c) (F : Fun c.K "_law_robot" "_law_robot" s_law_robot f fd) (hm : c.mg "_law_robot" = some (.ref f)) (G_law_draw : FnC c 1 "_law_draw" n_law_draw 2 m_law_draw) (G_law_place : FnC c 2 "_law_place" n_law_place 1 m_law_place) (G_law_number : FnC c 2 "_law_number" n_law_number 1 m_law_number) : FnC c 3 "_law_robot" n_law_robot 1 m_law_robot :=
  ⟨f, fd, ["box"], fn_ok F sc_law_robot (b_law_robot T G_law_draw G_law_place G_law_number), hm, F.kp, F.binds (ps := ["box"]) fun _ _ _ _ _ _ us hl => match us, hl with | [_], _ => rfl⟩
/-! _law_order -/
abbrev s_law_order : Stmt := top 29
abbrev n_law_order : List Str := ["box", "kind", "start", "goal"]
theorem sc_law_order : FnScope n_law_order ["box"] (defScope s_law_order) := ⟨rfl, rfl, rfl, by decide +kernel, rfl, by decide +kernel, by decide +kernel⟩
def m_law_order : MS :=
    (mSeq (mAsg 1 (mCallV n_law_draw 2 m_law_draw (cIo 0 (cImm (mC (.int 4)) cNil))))
    (mSeq (mAsg 2 (mBin dIx (lFix (mC (.str "ABCDEFGH"))) (lFix (mCallV n_law_draw 2 m_law_draw (cIo 0 (cImm (mC (.int 8)) cNil))))))
    (mSeq (mAsg 3 (mBin dIx (lFix (mC (.str "ABCDEFGH"))) (lFix (mCallV n_law_draw 2 m_law_draw (cIo 0 (cImm (mC (.int 8)) cNil))))))
    (mSeq (mIfS (mTest (mBin dLt (lVar 1) (lFix (mC (.int 2)))))
    (mRet (mTup (aCons (mVar 2) (aCons (mVar 3) (aCons (mBin (dEqv false) (lVar 1) (lFix (mC (.int 0)))) (aCons (mC .non) (aCons (mC (.bl false)) aNil)))))))
    mNext)
    (mRet (mTup (aCons (mVar 2) (aCons (mVar 3) (aCons (mC (.bl false)) (aCons (mCallV n_law_number 1 m_law_number (cIo 0 cNil)) (aCons (mBin (dEqv false) (lVar 1) (lFix (mC (.int 2)))) aNil)))))))))))
theorem b_law_order {c : Pc} (T : Txt c) (G_law_draw : FnC c 1 "_law_draw" n_law_draw 2 m_law_draw) (G_law_number : FnC c 2 "_law_number" n_law_number 1 m_law_number) : BV (c.z 2 n_law_order (defScope s_law_order)) (defBody s_law_order) m_law_order :=
    (bv_cons (sv_asg (i := 1) rfl (by first | exact Or.inr rfl | exact Or.inl ⟨rfl, Or.inl rfl⟩ | exact Or.inl ⟨rfl, Or.inr rfl⟩) (ev_call (G_law_draw.z (by decide)) (by rfl) (av_io (i := 0) rfl (by first | exact Or.inl rfl | exact Or.inr (Or.inl rfl) | exact Or.inr (Or.inr rfl)) (av_imm ev_int av_nil))))
    (bv_cons (sv_asg (i := 2) rfl (by first | exact Or.inr rfl | exact Or.inl ⟨rfl, Or.inl rfl⟩ | exact Or.inl ⟨rfl, Or.inr rfl⟩) (ev_ix (lv_ev ev_str) (lv_ev (ev_call (G_law_draw.z (by decide)) (by rfl) (av_io (i := 0) rfl (by first | exact Or.inl rfl | exact Or.inr (Or.inl rfl) | exact Or.inr (Or.inr rfl)) (av_imm ev_int av_nil))))))
    (bv_cons (sv_asg (i := 3) rfl (by first | exact Or.inr rfl | exact Or.inl ⟨rfl, Or.inl rfl⟩ | exact Or.inl ⟨rfl, Or.inr rfl⟩) (ev_ix (lv_ev ev_str) (lv_ev (ev_call (G_law_draw.z (by decide)) (by rfl) (av_io (i := 0) rfl (by first | exact Or.inl rfl | exact Or.inr (Or.inl rfl) | exact Or.inr (Or.inr rfl)) (av_imm ev_int av_nil))))))
    (bv_cons (sv_if (tv_cmp (fun _ _ => op_lt) ok_cmp (lv_var (i := 1) rfl (by first | exact Or.inl rfl | exact Or.inr (Or.inl rfl) | exact Or.inr (Or.inr rfl))) (lv_ev ev_int) (nomark _))
    (bv_one (sv_ret (ev_tup (ae_cons (ev_var (i := 2) rfl (by first | exact Or.inl rfl | exact Or.inr (Or.inl rfl) | exact Or.inr (Or.inr rfl))) (ae_cons (ev_var (i := 3) rfl (by first | exact Or.inl rfl | exact Or.inr (Or.inl rfl) | exact Or.inr (Or.inr rfl))) (ae_cons (ev_cmp (fun _ h => or_eq h) ok_eq (lv_var (i := 1) rfl (by first | exact Or.inl rfl | exact Or.inr (Or.inl rfl) | exact Or.inr (Or.inr rfl))) (lv_ev ev_int) (nomark _)) (ae_cons ev_non (ae_cons ev_bl ae_nil))))))))
    bv_nil)
    (bv_one (sv_ret (ev_tup (ae_cons (ev_var (i := 2) rfl (by first | exact Or.inl rfl | exact Or.inr (Or.inl rfl) | exact Or.inr (Or.inr rfl))) (ae_cons (ev_var (i := 3) rfl (by first | exact Or.inl rfl | exact Or.inr (Or.inl rfl) | exact Or.inr (Or.inr rfl))) (ae_cons ev_bl (ae_cons (ev_call (G_law_number.z (by decide)) (by rfl) (av_io (i := 0) rfl (by first | exact Or.inl rfl | exact Or.inr (Or.inl rfl) | exact Or.inr (Or.inr rfl)) av_nil)) (ae_cons (ev_cmp (fun _ h => or_eq h) ok_eq (lv_var (i := 1) rfl (by first | exact Or.inl rfl | exact Or.inr (Or.inl rfl) | exact Or.inr (Or.inr rfl))) (lv_ev ev_int) (nomark _)) ae_nil))))))))))))
theorem g_law_order {c : Pc} {f : Addr} {fd : FuncData} (T : Txt c) (F : Fun c.K "_law_order" "_law_order" s_law_order f fd) (hm : c.mg "_law_order" = some (.ref f)) (G_law_draw : FnC c 1 "_law_draw" n_law_draw 2 m_law_draw) (G_law_number : FnC c 2 "_law_number" n_law_number 1 m_law_number) : FnC c 3 "_law_order" n_law_order 1 m_law_order :=
  ⟨f, fd, ["box"], fn_ok F sc_law_order (b_law_order T G_law_draw G_law_number), hm, F.kp, F.binds (ps := ["box"]) fun _ _ _ _ _ _ us hl => match us, hl with | [_], _ => rfl⟩
/-! _law_told -/
abbrev s_law_told : Stmt := top 30
abbrev n_law_told : List Str := ["box", "robots", "orders", "k"]
theorem sc_law_told : FnScope n_law_told ["box"] (defScope s_law_told) := ⟨rfl, rfl, rfl, by decide +kernel, rfl, by decide +kernel, by decide +kernel⟩
def m_law_told : MS :=
    (mSeq (mAsgF 1 (mLc [3] (iR1 (aCons (mCallV n_law_draw 2 m_law_draw (cIo 0 (cImm (mC (.int 6)) cNil))) aNil)) (gN 3) mYes (mCallV n_law_robot 1 m_law_robot (cIo 0 cNil))))
    (mSeq (mAsgF 2 (mLc [3] (iR1 (aCons (mCallV n_law_draw 2 m_law_draw (cIo 0 (cImm (mC (.int 6)) cNil))) aNil)) (gN 3) mYes (mCallV n_law_order 1 m_law_order (cIo 0 cNil))))
    (mRetF (mLst (aCons (mVar 1) (aCons (mVar 2) aNil))))))
theorem b_law_told {c : Pc} (T : Txt c) (G_law_draw : FnC c 1 "_law_draw" n_law_draw 2 m_law_draw) (G_law_robot : FnC c 3 "_law_robot" n_law_robot 1 m_law_robot) (G_law_order : FnC c 3 "_law_order" n_law_order 1 m_law_order) : BV (c.z 3 n_law_told (defScope s_law_told)) (defBody s_law_told) m_law_told :=
    (bv_cons (sv_asgLc (i := 1) (own := ([("k", 3)] : List (Str × Nat))) rfl rfl rfl (iv_rng1 (by rfl) T.b_range (ae_cons (ev_call (G_law_draw.z (by decide)) (by rfl) (av_io (i := 0) rfl (by first | exact Or.inl rfl | exact Or.inr (Or.inl rfl) | exact Or.inr (Or.inr rfl)) (av_imm ev_int av_nil))) ae_nil)) (blkOk_by (N := n_law_told) (sc := defScope s_law_told) (own := ([("k", 3)] : List (Str × Nat))) (by decide +kernel)) (gv_name (i := 3) rfl (by first | exact Or.inr rfl | exact Or.inl ⟨rfl, Or.inl rfl⟩ | exact Or.inl ⟨rfl, Or.inr rfl⟩)) cv_nil (ev_call (G_law_robot.zb (by decide)) (by rfl) (av_io (i := 0) rfl (by first | exact Or.inl rfl | exact Or.inr (Or.inl rfl) | exact Or.inr (Or.inr rfl)) av_nil)) (hl := by rfl) (ha := by decide +kernel))
    (bv_cons (sv_asgLc (i := 2) (own := ([("k", 3)] : List (Str × Nat))) rfl rfl rfl (iv_rng1 (by rfl) T.b_range (ae_cons (ev_call (G_law_draw.z (by decide)) (by rfl) (av_io (i := 0) rfl (by first | exact Or.inl rfl | exact Or.inr (Or.inl rfl) | exact Or.inr (Or.inr rfl)) (av_imm ev_int av_nil))) ae_nil)) (blkOk_by (N := n_law_told) (sc := defScope s_law_told) (own := ([("k", 3)] : List (Str × Nat))) (by decide +kernel)) (gv_name (i := 3) rfl (by first | exact Or.inr rfl | exact Or.inl ⟨rfl, Or.inl rfl⟩ | exact Or.inl ⟨rfl, Or.inr rfl⟩)) cv_nil (ev_call (G_law_order.zb (by decide)) (by rfl) (av_io (i := 0) rfl (by first | exact Or.inl rfl | exact Or.inr (Or.inl rfl) | exact Or.inr (Or.inr rfl)) av_nil)) (hl := by rfl) (ha := by decide +kernel))
    (bv_one (sv_retF (ef_lst (ae_cons (ev_var (i := 1) rfl (by first | exact Or.inl rfl | exact Or.inr (Or.inl rfl) | exact Or.inr (Or.inr rfl))) (ae_cons (ev_var (i := 2) rfl (by first | exact Or.inl rfl | exact Or.inr (Or.inl rfl) | exact Or.inr (Or.inr rfl))) ae_nil)))))))
theorem g_law_told {c : Pc} {f : Addr} {fd : FuncData} (T : Txt c) (F : Fun c.K "_law_told" "_law_told" s_law_told f fd) (hm : c.mg "_law_told" = some (.ref f)) (G_law_draw : FnC c 1 "_law_draw" n_law_draw 2 m_law_draw) (G_law_robot : FnC c 3 "_law_robot" n_law_robot 1 m_law_robot) (G_law_order : FnC c 3 "_law_order" n_law_order 1 m_law_order) : FnC c 4 "_law_told" n_law_told 1 m_law_told :=
  ⟨f, fd, ["box"], fn_ok F sc_law_told (b_law_told T G_law_draw G_law_robot G_law_order), hm, F.kp, F.binds (ps := ["box"]) fun _ _ _ _ _ _ us hl => match us, hl with | [_], _ => rfl⟩
/-! write_place -/
abbrev s_write_place : Stmt := top 9
abbrev n_write_place : List Str := ["place", "row", "column"]
theorem sc_write_place : FnScope n_write_place ["place"] (defScope s_write_place) := ⟨rfl, rfl, rfl, by decide +kernel, rfl, by decide +kernel, by decide +kernel⟩
def m_write_place : MS :=
    (mSeq (mIfS (mTest (mBin (dIs false) (lVar 0) (lFix (mC .non))))
    (mRet (mC (.str "depot")))
    mNext)
    (mSeq (mAsgG (gT 2 (gsCons (gN 1) (gsCons (gN 2) gsNil))) (mVar 0))
    (mRet (mJoined [(mFmt (mVar 1)), (mC (.str ":")), (mFmt (mVar 2))]))))
theorem b_write_place {c : Pc} (T : Txt c) : BV (c.z 0 n_write_place (defScope s_write_place)) (defBody s_write_place) m_write_place :=
    (bv_cons (sv_if (tv_cmp (fun _ _ => op_isN) ok_is (lv_var (i := 0) rfl (by first | exact Or.inl rfl | exact Or.inr (Or.inl rfl) | exact Or.inr (Or.inr rfl))) (lv_ev ev_non) (nomark _))
    (bv_one (sv_ret ev_str))
    bv_nil)
    (bv_cons (sv_asgG (gv_tup (gvs_cons (gv_name (i := 1) rfl (by first | exact Or.inr rfl | exact Or.inl ⟨rfl, Or.inl rfl⟩ | exact Or.inl ⟨rfl, Or.inr rfl⟩)) (gvs_cons (gv_name (i := 2) rfl (by first | exact Or.inr rfl | exact Or.inl ⟨rfl, Or.inl rfl⟩ | exact Or.inl ⟨rfl, Or.inr rfl⟩)) gvs_nil))) (ev_var (i := 0) rfl (by first | exact Or.inl rfl | exact Or.inr (Or.inl rfl) | exact Or.inr (Or.inr rfl))))
    (bv_one (sv_ret (ev_joined (JV.cons (ev_fmt (ev_var (i := 1) rfl (by first | exact Or.inl rfl | exact Or.inr (Or.inl rfl) | exact Or.inr (Or.inr rfl)))) (JV.cons ev_str (JV.cons (ev_fmt (ev_var (i := 2) rfl (by first | exact Or.inl rfl | exact Or.inr (Or.inl rfl) | exact Or.inr (Or.inr rfl)))) JV.nil))))))))
theorem g_write_place {c : Pc} {f : Addr} {fd : FuncData} (T : Txt c) (F : Fun c.K "write_place" "write_place" s_write_place f fd) (hm : c.mg "write_place" = some (.ref f)) : FnC c 1 "write_place" n_write_place 1 m_write_place :=
  ⟨f, fd, ["place"], fn_ok F sc_write_place (b_write_place T), hm, F.kp, F.binds (ps := ["place"]) fun _ _ _ _ _ _ us hl => match us, hl with | [_], _ => rfl⟩
/-! write_robot -/
abbrev s_write_robot : Stmt := top 10
abbrev n_write_robot : List Str := ["number", "row", "place", "broken", "order", "loaded", "way", "words", "cell"]
theorem sc_write_robot : FnScope n_write_robot ["number", "row"] (defScope s_write_robot) := ⟨rfl, rfl, rfl, by decide +kernel, rfl, by decide +kernel, by decide +kernel⟩
def m_write_robot : MS :=
    (mSeq (mAsgG (gT 5 (gsCons (gN 2) (gsCons (gN 3) (gsCons (gN 4) (gsCons (gN 5) (gsCons (gN 6) gsNil)))))) (mVar 1))
    (mSeq (mAsgF 7 (mLst (aCons (mC (.str "robot")) (aCons (mBi dStr (bCons (lVar 0) bNil)) (aCons (mCallV n_write_place 1 m_write_place (cImm (mVar 2) cNil)) (aCons (mIf (mTru (lVar 3)) (mC (.str "broken")) (mC (.str "runs"))) aNil))))))
    (mSeq (mIfS (mTest (mBin (dIs true) (lVar 4) (lFix (mC .non))))
    (mExt 7 (mLst (aCons (mIf (mTru (lVar 5)) (mC (.str "loaded")) (mC (.str "empty"))) (aCons (mBi dStr (bCons (lVar 4) bNil)) aNil))))
    mNext)
    (mSeq (mIfS (mTru (lVar 6))
    (mExt 7 (mBin dCat (lFix (mLst (aCons (mC (.str "way")) aNil))) (lFix (mLc [8] (iAny (mVar 6)) (gN 8) mYes (mCallV n_write_place 1 m_write_place (cImm (mVar 8) cNil))))))
    mNext)
    (mRet (mJoin (mC (.str " ")) (lVar 7)))))))
theorem b_write_robot {c : Pc} (T : Txt c) (G_write_place : FnC c 1 "write_place" n_write_place 1 m_write_place) : BV (c.z 1 n_write_robot (defScope s_write_robot)) (defBody s_write_robot) m_write_robot :=
    (bv_cons (sv_asgG (gv_tup (gvs_cons (gv_name (i := 2) rfl (by first | exact Or.inr rfl | exact Or.inl ⟨rfl, Or.inl rfl⟩ | exact Or.inl ⟨rfl, Or.inr rfl⟩)) (gvs_cons (gv_name (i := 3) rfl (by first | exact Or.inr rfl | exact Or.inl ⟨rfl, Or.inl rfl⟩ | exact Or.inl ⟨rfl, Or.inr rfl⟩)) (gvs_cons (gv_name (i := 4) rfl (by first | exact Or.inr rfl | exact Or.inl ⟨rfl, Or.inl rfl⟩ | exact Or.inl ⟨rfl, Or.inr rfl⟩)) (gvs_cons (gv_name (i := 5) rfl (by first | exact Or.inr rfl | exact Or.inl ⟨rfl, Or.inl rfl⟩ | exact Or.inl ⟨rfl, Or.inr rfl⟩)) (gvs_cons (gv_name (i := 6) rfl (by first | exact Or.inr rfl | exact Or.inl ⟨rfl, Or.inl rfl⟩ | exact Or.inl ⟨rfl, Or.inr rfl⟩)) gvs_nil)))))) (ev_var (i := 1) rfl (by first | exact Or.inl rfl | exact Or.inr (Or.inl rfl) | exact Or.inr (Or.inr rfl))))
    (bv_cons (sv_asgF (i := 7) rfl (by first | exact Or.inr rfl | exact Or.inl ⟨rfl, Or.inl rfl⟩ | exact Or.inl ⟨rfl, Or.inr rfl⟩) (ef_lst (ae_cons ev_str (ae_cons (ev_callT (fun _ _ => cr_str) ok_str (by rfl) T.b_str (by decide +kernel) (al_cons (lv_var (i := 0) rfl (by first | exact Or.inl rfl | exact Or.inr (Or.inl rfl) | exact Or.inr (Or.inr rfl))) al_nil)) (ae_cons (ev_call (G_write_place.z (by decide)) (by rfl) (av_imm (ev_var (i := 2) rfl (by first | exact Or.inl rfl | exact Or.inr (Or.inl rfl) | exact Or.inr (Or.inr rfl))) av_nil)) (ae_cons (ev_if (tv_tru (lv_var (i := 3) rfl (by first | exact Or.inl rfl | exact Or.inr (Or.inl rfl) | exact Or.inr (Or.inr rfl)))) ev_str ev_str) ae_nil))))))
    (bv_cons (sv_if (tv_cmp (fun _ _ => op_notN) ok_isnot (lv_var (i := 4) rfl (by first | exact Or.inl rfl | exact Or.inr (Or.inl rfl) | exact Or.inr (Or.inr rfl))) (lv_ev ev_non) (nomark _))
    (bv_one (sv_ext (i := 7) rfl (by first | exact Or.inr rfl | exact Or.inl ⟨rfl, Or.inl rfl⟩ | exact Or.inl ⟨rfl, Or.inr rfl⟩) (ef_lst (ae_cons (ev_if (tv_tru (lv_var (i := 5) rfl (by first | exact Or.inl rfl | exact Or.inr (Or.inl rfl) | exact Or.inr (Or.inr rfl)))) ev_str ev_str) (ae_cons (ev_callT (fun _ _ => cr_str) ok_str (by rfl) T.b_str (by decide +kernel) (al_cons (lv_var (i := 4) rfl (by first | exact Or.inl rfl | exact Or.inr (Or.inl rfl) | exact Or.inr (Or.inr rfl))) al_nil)) ae_nil))).ev))
    bv_nil)
    (bv_cons (sv_if (tv_tru (lv_var (i := 6) rfl (by first | exact Or.inl rfl | exact Or.inr (Or.inl rfl) | exact Or.inr (Or.inr rfl))))
    (bv_one (sv_ext (i := 7) rfl (by first | exact Or.inr rfl | exact Or.inl ⟨rfl, Or.inl rfl⟩ | exact Or.inl ⟨rfl, Or.inr rfl⟩) (ef_op (fun _ _ => op_cat) ok_cat (lv_ev (ef_lst (ae_cons ev_str ae_nil)).ev) (lv_ev (ef_lc (own := ([("cell", 8)] : List (Str × Nat))) (iv_any (ev_var (i := 6) rfl (by first | exact Or.inl rfl | exact Or.inr (Or.inl rfl) | exact Or.inr (Or.inr rfl)))) (blkOk_by (N := n_write_robot) (sc := defScope s_write_robot) (own := ([("cell", 8)] : List (Str × Nat))) (by decide +kernel)) (gv_name (i := 8) rfl (by first | exact Or.inr rfl | exact Or.inl ⟨rfl, Or.inl rfl⟩ | exact Or.inl ⟨rfl, Or.inr rfl⟩)) cv_nil (ev_call (G_write_place.zb (by decide)) (by rfl) (av_imm (ev_var (i := 8) rfl (by first | exact Or.inl rfl | exact Or.inr (Or.inl rfl) | exact Or.inr (Or.inr rfl))) av_nil))).ev)).ev))
    bv_nil)
    (bv_one (sv_ret (ev_join ev_str (lv_var (i := 7) rfl (by first | exact Or.inl rfl | exact Or.inr (Or.inl rfl) | exact Or.inr (Or.inr rfl))))))))))
theorem g_write_robot {c : Pc} {f : Addr} {fd : FuncData} (T : Txt c) (F : Fun c.K "write_robot" "write_robot" s_write_robot f fd) (hm : c.mg "write_robot" = some (.ref f)) (G_write_place : FnC c 1 "write_place" n_write_place 1 m_write_place) : FnC c 2 "write_robot" n_write_robot 2 m_write_robot :=
  ⟨f, fd, ["number", "row"], fn_ok F sc_write_robot (b_write_robot T G_write_place), hm, F.kp, F.binds (ps := ["number", "row"]) fun _ _ _ _ _ _ us hl => match us, hl with | [_, _], _ => rfl⟩
/-! write_order -/
abbrev s_write_order : Stmt := top 11
abbrev n_write_order : List Str := ["number", "row", "start", "goal", "done", "robot", "loaded", "words"]
theorem sc_write_order : FnScope n_write_order ["number", "row"] (defScope s_write_order) := ⟨rfl, rfl, rfl, by decide +kernel, rfl, by decide +kernel, by decide +kernel⟩
def m_write_order : MS :=
    (mSeq (mAsgG (gT 5 (gsCons (gN 2) (gsCons (gN 3) (gsCons (gN 4) (gsCons (gN 5) (gsCons (gN 6) gsNil)))))) (mVar 1))
    (mSeq (mAsgF 7 (mLst (aCons (mC (.str "order")) (aCons (mBi dStr (bCons (lVar 0) bNil)) (aCons (mVar 2) (aCons (mVar 3) aNil))))))
    (mSeq (mIfS (mTru (lVar 4))
    (mApp 7 (mC (.str "done")))
    (mIfS (mTest (mBin (dIs false) (lVar 5) (lFix (mC .non))))
    (mApp 7 (mC (.str "waits")))
    (mExt 7 (mLst (aCons (mIf (mTru (lVar 6)) (mC (.str "loaded")) (mC (.str "empty"))) (aCons (mBi dStr (bCons (lVar 5) bNil)) aNil))))))
    (mRet (mJoin (mC (.str " ")) (lVar 7))))))
theorem b_write_order {c : Pc} (T : Txt c) : BV (c.z 0 n_write_order (defScope s_write_order)) (defBody s_write_order) m_write_order :=
    (bv_cons (sv_asgG (gv_tup (gvs_cons (gv_name (i := 2) rfl (by first | exact Or.inr rfl | exact Or.inl ⟨rfl, Or.inl rfl⟩ | exact Or.inl ⟨rfl, Or.inr rfl⟩)) (gvs_cons (gv_name (i := 3) rfl (by first | exact Or.inr rfl | exact Or.inl ⟨rfl, Or.inl rfl⟩ | exact Or.inl ⟨rfl, Or.inr rfl⟩)) (gvs_cons (gv_name (i := 4) rfl (by first | exact Or.inr rfl | exact Or.inl ⟨rfl, Or.inl rfl⟩ | exact Or.inl ⟨rfl, Or.inr rfl⟩)) (gvs_cons (gv_name (i := 5) rfl (by first | exact Or.inr rfl | exact Or.inl ⟨rfl, Or.inl rfl⟩ | exact Or.inl ⟨rfl, Or.inr rfl⟩)) (gvs_cons (gv_name (i := 6) rfl (by first | exact Or.inr rfl | exact Or.inl ⟨rfl, Or.inl rfl⟩ | exact Or.inl ⟨rfl, Or.inr rfl⟩)) gvs_nil)))))) (ev_var (i := 1) rfl (by first | exact Or.inl rfl | exact Or.inr (Or.inl rfl) | exact Or.inr (Or.inr rfl))))
    (bv_cons (sv_asgF (i := 7) rfl (by first | exact Or.inr rfl | exact Or.inl ⟨rfl, Or.inl rfl⟩ | exact Or.inl ⟨rfl, Or.inr rfl⟩) (ef_lst (ae_cons ev_str (ae_cons (ev_callT (fun _ _ => cr_str) ok_str (by rfl) T.b_str (by decide +kernel) (al_cons (lv_var (i := 0) rfl (by first | exact Or.inl rfl | exact Or.inr (Or.inl rfl) | exact Or.inr (Or.inr rfl))) al_nil)) (ae_cons (ev_var (i := 2) rfl (by first | exact Or.inl rfl | exact Or.inr (Or.inl rfl) | exact Or.inr (Or.inr rfl))) (ae_cons (ev_var (i := 3) rfl (by first | exact Or.inl rfl | exact Or.inr (Or.inl rfl) | exact Or.inr (Or.inr rfl))) ae_nil))))))
    (bv_cons (sv_if (tv_tru (lv_var (i := 4) rfl (by first | exact Or.inl rfl | exact Or.inr (Or.inl rfl) | exact Or.inr (Or.inr rfl))))
    (bv_one (sv_append (i := 7) rfl (by first | exact Or.inl rfl | exact Or.inr (Or.inl rfl) | exact Or.inr (Or.inr rfl)) ev_str))
    (bv_one (sv_if (tv_cmp (fun _ _ => op_isN) ok_is (lv_var (i := 5) rfl (by first | exact Or.inl rfl | exact Or.inr (Or.inl rfl) | exact Or.inr (Or.inr rfl))) (lv_ev ev_non) (nomark _))
    (bv_one (sv_append (i := 7) rfl (by first | exact Or.inl rfl | exact Or.inr (Or.inl rfl) | exact Or.inr (Or.inr rfl)) ev_str))
    (bv_one (sv_ext (i := 7) rfl (by first | exact Or.inr rfl | exact Or.inl ⟨rfl, Or.inl rfl⟩ | exact Or.inl ⟨rfl, Or.inr rfl⟩) (ef_lst (ae_cons (ev_if (tv_tru (lv_var (i := 6) rfl (by first | exact Or.inl rfl | exact Or.inr (Or.inl rfl) | exact Or.inr (Or.inr rfl)))) ev_str ev_str) (ae_cons (ev_callT (fun _ _ => cr_str) ok_str (by rfl) T.b_str (by decide +kernel) (al_cons (lv_var (i := 5) rfl (by first | exact Or.inl rfl | exact Or.inr (Or.inl rfl) | exact Or.inr (Or.inr rfl))) al_nil)) ae_nil))).ev)))))
    (bv_one (sv_ret (ev_join ev_str (lv_var (i := 7) rfl (by first | exact Or.inl rfl | exact Or.inr (Or.inl rfl) | exact Or.inr (Or.inr rfl)))))))))
theorem g_write_order {c : Pc} {f : Addr} {fd : FuncData} (T : Txt c) (F : Fun c.K "write_order" "write_order" s_write_order f fd) (hm : c.mg "write_order" = some (.ref f)) : FnC c 1 "write_order" n_write_order 2 m_write_order :=
  ⟨f, fd, ["number", "row"], fn_ok F sc_write_order (b_write_order T), hm, F.kp, F.binds (ps := ["number", "row"]) fun _ _ _ _ _ _ us hl => match us, hl with | [_, _], _ => rfl⟩
/-! write_report -/
abbrev s_write_report : Stmt := top 12
abbrev n_write_report : List Str := ["robots", "orders", "lines", "number", "row"]
theorem sc_write_report : FnScope n_write_report ["robots", "orders"] (defScope s_write_report) := ⟨rfl, rfl, rfl, by decide +kernel, rfl, by decide +kernel, by decide +kernel⟩
def m_write_report : MS :=
    (mSeq (mAsgF 2 (mLc [3, 4] (iEn (aCons (mVar 0) aNil)) (gT 2 (gsCons (gN 3) (gsCons (gN 4) gsNil))) mYes (mCallV n_write_robot 2 m_write_robot (cImm (mVar 3) (cImm (mVar 4) cNil)))))
    (mRet (mJoin (mC (.str "\n")) (lFix (mBin dCat (lVar 2) (lFix (mLc [3, 4] (iEn (aCons (mVar 1) aNil)) (gT 2 (gsCons (gN 3) (gsCons (gN 4) gsNil))) mYes (mCallV n_write_order 2 m_write_order (cImm (mVar 3) (cImm (mVar 4) cNil))))))))))
theorem b_write_report {c : Pc} (T : Txt c) (G_write_robot : FnC c 2 "write_robot" n_write_robot 2 m_write_robot) (G_write_order : FnC c 1 "write_order" n_write_order 2 m_write_order) : BV (c.z 2 n_write_report (defScope s_write_report)) (defBody s_write_report) m_write_report :=
    (bv_cons (sv_asgLc (i := 2) (own := ([("number", 3), ("row", 4)] : List (Str × Nat))) rfl rfl rfl (iv_enum (by rfl) T.b_enumerate (ae_cons (ev_var (i := 0) rfl (by first | exact Or.inl rfl | exact Or.inr (Or.inl rfl) | exact Or.inr (Or.inr rfl))) ae_nil)) (blkOk_by (N := n_write_report) (sc := defScope s_write_report) (own := ([("number", 3), ("row", 4)] : List (Str × Nat))) (by decide +kernel)) (gv_tup (gvs_cons (gv_name (i := 3) rfl (by first | exact Or.inr rfl | exact Or.inl ⟨rfl, Or.inl rfl⟩ | exact Or.inl ⟨rfl, Or.inr rfl⟩)) (gvs_cons (gv_name (i := 4) rfl (by first | exact Or.inr rfl | exact Or.inl ⟨rfl, Or.inl rfl⟩ | exact Or.inl ⟨rfl, Or.inr rfl⟩)) gvs_nil))) cv_nil (ev_call (G_write_robot.zb (by decide)) (by rfl) (av_imm (ev_var (i := 3) rfl (by first | exact Or.inl rfl | exact Or.inr (Or.inl rfl) | exact Or.inr (Or.inr rfl))) (av_imm (ev_var (i := 4) rfl (by first | exact Or.inl rfl | exact Or.inr (Or.inl rfl) | exact Or.inr (Or.inr rfl))) av_nil))) (hl := by rfl) (ha := by decide +kernel))
    (bv_one (sv_ret (ev_join ev_str (lv_ev (ef_op (fun _ _ => op_cat) ok_cat (lv_var (i := 2) rfl (by first | exact Or.inl rfl | exact Or.inr (Or.inl rfl) | exact Or.inr (Or.inr rfl))) (lv_ev (ef_lc (own := ([("number", 3), ("row", 4)] : List (Str × Nat))) (iv_enum (by rfl) T.b_enumerate (ae_cons (ev_var (i := 1) rfl (by first | exact Or.inl rfl | exact Or.inr (Or.inl rfl) | exact Or.inr (Or.inr rfl))) ae_nil)) (blkOk_by (N := n_write_report) (sc := defScope s_write_report) (own := ([("number", 3), ("row", 4)] : List (Str × Nat))) (by decide +kernel)) (gv_tup (gvs_cons (gv_name (i := 3) rfl (by first | exact Or.inr rfl | exact Or.inl ⟨rfl, Or.inl rfl⟩ | exact Or.inl ⟨rfl, Or.inr rfl⟩)) (gvs_cons (gv_name (i := 4) rfl (by first | exact Or.inr rfl | exact Or.inl ⟨rfl, Or.inl rfl⟩ | exact Or.inl ⟨rfl, Or.inr rfl⟩)) gvs_nil))) cv_nil (ev_call (G_write_order.zb (by decide)) (by rfl) (av_imm (ev_var (i := 3) rfl (by first | exact Or.inl rfl | exact Or.inr (Or.inl rfl) | exact Or.inr (Or.inr rfl))) (av_imm (ev_var (i := 4) rfl (by first | exact Or.inl rfl | exact Or.inr (Or.inl rfl) | exact Or.inr (Or.inr rfl))) av_nil)))).ev)).ev)))))
theorem g_write_report {c : Pc} {f : Addr} {fd : FuncData} (T : Txt c) (F : Fun c.K "write_report" "write_report" s_write_report f fd) (hm : c.mg "write_report" = some (.ref f)) (G_write_robot : FnC c 2 "write_robot" n_write_robot 2 m_write_robot) (G_write_order : FnC c 1 "write_order" n_write_order 2 m_write_order) : FnC c 3 "write_report" n_write_report 2 m_write_report :=
  ⟨f, fd, ["robots", "orders"], fn_ok F sc_write_report (b_write_report T G_write_robot G_write_order), hm, F.kp, F.binds (ps := ["robots", "orders"]) fun _ _ _ _ _ _ us hl => match us, hl with | [_, _], _ => rfl⟩
/-! read_number -/
abbrev s_read_number : Stmt := top 6
abbrev n_read_number : List Str := ["text", "sign"]
theorem sc_read_number : FnScope n_read_number ["text"] (defScope s_read_number) := ⟨rfl, rfl, rfl, by decide +kernel, rfl, by decide +kernel, by decide +kernel⟩
def m_read_number : MS :=
    (mSeq (mIfS (mNot (mTest (mChain dLe dLe (lFix (mC (.int 1))) (lFix (mBi dLen (bCons (lVar 0) bNil))) (lFix (mC (.int 6))))))
    (mRet (mC .non))
    mNext)
    (mSeq (mIfS (mTru (lFix (mGx true [1] (iAny (mVar 0)) (gN 1) mYes (mBin (dIn true) (lVar 1) (lFix (mC (.str "0123456789")))))))
    (mRet (mC .non))
    mNext)
    (mSeq (mIfS (mAnd (mTest (mBin (dEqv false) (lFix (mBin dIx (lVar 0) (lFix (mC (.int 0))))) (lFix (mC (.str "0"))))) (mTest (mBin dGt (lFix (mBi dLen (bCons (lVar 0) bNil))) (lFix (mC (.int 1))))))
    (mRet (mC .non))
    mNext)
    (mRet (mBi dIntS (bCons (lVar 0) bNil))))))
theorem b_read_number {c : Pc} (T : Txt c) {Cc Pp : Addr} (hP : IsTab c.cl Pp) : BV (c.z 2 n_read_number (defScope s_read_number) (some (Cc, Pp))) (defBody s_read_number) m_read_number :=
    (bv_cons (sv_if (tv_not (tv_chain (fun _ _ => op_le) (fun _ _ => op_le) ok_cmp ok_cmp (lv_ev ev_int) (lv_ev (ev_callB (fun _ h => cr_len h) ok_len (by rfl) T.b_len (by decide +kernel) (al_cons (lv_var (i := 0) rfl (by first | exact Or.inl rfl | exact Or.inr (Or.inl rfl) | exact Or.inr (Or.inr rfl))) al_nil))) (lv_ev (ev_globI (by rfl) (by exact T.c_MOST_FIGURES)))))
    (bv_one (sv_ret ev_non))
    bv_nil)
    (bv_cons (sv_if (tv_tru (lv_ev (ev_any (own := ([("sign", 1)] : List (Str × Nat))) (k := 0) rfl (by show 0 + 2 ≤ 2; decide) (by rfl) T.b_any (hi := (iv_any (ev_var (i := 0) rfl (by first | exact Or.inl rfl | exact Or.inr (Or.inl rfl) | exact Or.inr (Or.inr rfl))))) (ok := (blkOk_by (N := n_read_number) (sc := defScope s_read_number) (own := ([("sign", 1)] : List (Str × Nat))) (by decide +kernel))) (hsc := by decide +kernel) (hg := (gv_name (i := 1) rfl (by first | exact Or.inr rfl | exact Or.inl ⟨rfl, Or.inl rfl⟩ | exact Or.inl ⟨rfl, Or.inr rfl⟩))) (ht := cv_nil) (he := (ev_cmp (fun _ h => or_nin h) ok_nin (lv_var (i := 1) rfl (by first | exact Or.inl rfl | exact Or.inr (Or.inl rfl) | exact Or.inr (Or.inr rfl))) (lv_ev (ev_glob (by rfl) (by exact T.c_FIGURES))) (by rfl))) (hP := hP))))
    (bv_one (sv_ret ev_non))
    bv_nil)
    (bv_cons (sv_if ((wv_and (tv_cmp (fun _ h => or_eq h) ok_eq (lv_ev (ev_ix (lv_var (i := 0) rfl (by first | exact Or.inl rfl | exact Or.inr (Or.inl rfl) | exact Or.inr (Or.inr rfl))) (lv_ev ev_int))) (lv_ev ev_str) (nomark _)) (wv_and1 (tv_cmp (fun _ _ => op_gt) ok_cmp (lv_ev (ev_callB (fun _ h => cr_len h) ok_len (by rfl) T.b_len (by decide +kernel) (al_cons (lv_var (i := 0) rfl (by first | exact Or.inl rfl | exact Or.inr (Or.inl rfl) | exact Or.inr (Or.inr rfl))) al_nil))) (lv_ev ev_int) (nomark _))))).tv
    (bv_one (sv_ret ev_non))
    bv_nil)
    (bv_one (sv_ret (ev_callT (fun _ _ => cr_intS) ok_intS (by rfl) T.b_int (by decide +kernel) (al_cons (lv_var (i := 0) rfl (by first | exact Or.inl rfl | exact Or.inr (Or.inl rfl) | exact Or.inr (Or.inr rfl))) al_nil)))))))
theorem g_read_number {c : Pc} {f : Addr} {fd : FuncData} (T : Txt c) {Cc Pp : Addr} (hP : IsTab c.cl Pp) (hco : fd.code = .ref Cc) (hTB : GxR.TabB c.base c.mg Cc Pp) (F : Fun c.K "read_number" "read_number" s_read_number f fd) (hm : c.mg "read_number" = some (.ref f)) : FnC c 3 "read_number" n_read_number 1 m_read_number :=
  ⟨f, fd, ["text"], fn_ok (me := some (Cc, Pp)) F sc_read_number (b_read_number T hP) (fun c1 P1 e => by cases e; exact ⟨hco, hTB, hP⟩), hm, F.kp, F.binds (ps := ["text"]) fun _ _ _ _ _ _ us hl => match us, hl with | [_], _ => rfl⟩
/-! read_place -/
abbrev s_read_place : Stmt := top 13
abbrev n_read_place : List Str := ["word", "parts", "part"]
theorem sc_read_place : FnScope n_read_place ["word"] (defScope s_read_place) := ⟨rfl, rfl, rfl, by decide +kernel, rfl, by decide +kernel, by decide +kernel⟩
def m_read_place : MS :=
    (mSeq (mAsgF 1 (mLc [2] (iAny (mM1 fSplit (mVar 0) (mC (.str ":")))) (gN 2) mYes (mCallV n_read_number 1 m_read_number (cImm (mVar 2) cNil))))
    (mSeq (mIfS (mOr (mTest (mBin (dEqv true) (lFix (mBi dLen (bCons (lVar 1) bNil))) (lFix (mC (.int 2))))) (mTest (mBin (dInP false) (lFix (mC .non)) (lVar 1))))
    (mRet (mC .non))
    mNext)
    (mRet (mTup (aCons (mBin dIx (lVar 1) (lFix (mC (.int 0)))) (aCons (mBin dIx (lVar 1) (lFix (mC (.int 1)))) aNil))))))
theorem b_read_place {c : Pc} (T : Txt c) (G_read_number : FnC c 3 "read_number" n_read_number 1 m_read_number) : BV (c.z 3 n_read_place (defScope s_read_place)) (defBody s_read_place) m_read_place :=
    (bv_cons (sv_asgLc (i := 1) (own := ([("part", 2)] : List (Str × Nat))) rfl rfl rfl (iv_any (ef_split (ev_var (i := 0) rfl (by first | exact Or.inl rfl | exact Or.inr (Or.inl rfl) | exact Or.inr (Or.inr rfl))) ev_str).ev) (blkOk_by (N := n_read_place) (sc := defScope s_read_place) (own := ([("part", 2)] : List (Str × Nat))) (by decide +kernel)) (gv_name (i := 2) rfl (by first | exact Or.inr rfl | exact Or.inl ⟨rfl, Or.inl rfl⟩ | exact Or.inl ⟨rfl, Or.inr rfl⟩)) cv_nil (ev_call (G_read_number.zb (by decide)) (by rfl) (av_imm (ev_var (i := 2) rfl (by first | exact Or.inl rfl | exact Or.inr (Or.inl rfl) | exact Or.inr (Or.inr rfl))) av_nil)) (hl := by rfl) (ha := by decide +kernel))
    (bv_cons (sv_if ((wv_or (tv_cmp (fun _ h => or_ne h) ok_ne (lv_ev (ev_callB (fun _ h => cr_len h) ok_len (by rfl) T.b_len (by decide +kernel) (al_cons (lv_var (i := 1) rfl (by first | exact Or.inl rfl | exact Or.inr (Or.inl rfl) | exact Or.inr (Or.inr rfl))) al_nil))) (lv_ev ev_int) (nomark _)) (wv_or1 (tv_cmp (fun _ h => or_inP h) ok_inP (lv_ev ev_non) (lv_var (i := 1) rfl (by first | exact Or.inl rfl | exact Or.inr (Or.inl rfl) | exact Or.inr (Or.inr rfl))) (by rfl))))).tv
    (bv_one (sv_ret ev_non))
    bv_nil)
    (bv_one (sv_ret (ev_tup (ae_cons (ev_ix (lv_var (i := 1) rfl (by first | exact Or.inl rfl | exact Or.inr (Or.inl rfl) | exact Or.inr (Or.inr rfl))) (lv_ev ev_int)) (ae_cons (ev_ix (lv_var (i := 1) rfl (by first | exact Or.inl rfl | exact Or.inr (Or.inl rfl) | exact Or.inr (Or.inr rfl))) (lv_ev ev_int)) ae_nil)))))))
theorem g_read_place {c : Pc} {f : Addr} {fd : FuncData} (T : Txt c) (F : Fun c.K "read_place" "read_place" s_read_place f fd) (hm : c.mg "read_place" = some (.ref f)) (G_read_number : FnC c 3 "read_number" n_read_number 1 m_read_number) : FnC c 4 "read_place" n_read_place 1 m_read_place :=
  ⟨f, fd, ["word"], fn_ok F sc_read_place (b_read_place T G_read_number), hm, F.kp, F.binds (ps := ["word"]) fun _ _ _ _ _ _ us hl => match us, hl with | [_], _ => rfl⟩
/-! read_share -/
abbrev s_read_share : Stmt := top 14
abbrev n_read_share : List Str := ["words", "number"]
theorem sc_read_share : FnScope n_read_share ["words"] (defScope s_read_share) := ⟨rfl, rfl, rfl, by decide +kernel, rfl, by decide +kernel, by decide +kernel⟩
def m_read_share : MS :=
    (mSeq (mIfS (mOr (mTest (mBin (dEqv true) (lFix (mBi dLen (bCons (lVar 0) bNil))) (lFix (mC (.int 2))))) (mTest (mBin (dIn true) (lFix (mBin dIx (lVar 0) (lFix (mC (.int 0))))) (lFix (mTup (aCons (mC (.str "loaded")) (aCons (mC (.str "empty")) aNil)))))))
    (mRet (mC .non))
    mNext)
    (mSeq (mAsg 1 (mCallV n_read_number 1 m_read_number (cImm (mBin dIx (lVar 0) (lFix (mC (.int 1)))) cNil)))
    (mRet (mIf (mTest (mBin (dIs false) (lVar 1) (lFix (mC .non)))) (mC .non) (mTup (aCons (mBin (dEqv false) (lFix (mBin dIx (lVar 0) (lFix (mC (.int 0))))) (lFix (mC (.str "loaded")))) (aCons (mVar 1) aNil)))))))
theorem b_read_share {c : Pc} (T : Txt c) (G_read_number : FnC c 3 "read_number" n_read_number 1 m_read_number) : BV (c.z 3 n_read_share (defScope s_read_share)) (defBody s_read_share) m_read_share :=
    (bv_cons (sv_if ((wv_or (tv_cmp (fun _ h => or_ne h) ok_ne (lv_ev (ev_callB (fun _ h => cr_len h) ok_len (by rfl) T.b_len (by decide +kernel) (al_cons (lv_var (i := 0) rfl (by first | exact Or.inl rfl | exact Or.inr (Or.inl rfl) | exact Or.inr (Or.inr rfl))) al_nil))) (lv_ev ev_int) (nomark _)) (wv_or1 (tv_cmp (fun _ h => or_nin h) ok_nin (lv_ev (ev_ix (lv_var (i := 0) rfl (by first | exact Or.inl rfl | exact Or.inr (Or.inl rfl) | exact Or.inr (Or.inr rfl))) (lv_ev ev_int))) (lv_ev (ev_tup (ae_cons ev_str (ae_cons ev_str ae_nil)))) (by rfl))))).tv
    (bv_one (sv_ret ev_non))
    bv_nil)
    (bv_cons (sv_asg (i := 1) rfl (by first | exact Or.inr rfl | exact Or.inl ⟨rfl, Or.inl rfl⟩ | exact Or.inl ⟨rfl, Or.inr rfl⟩) (ev_call (G_read_number.z (by decide)) (by rfl) (av_imm (ev_ix (lv_var (i := 0) rfl (by first | exact Or.inl rfl | exact Or.inr (Or.inl rfl) | exact Or.inr (Or.inr rfl))) (lv_ev ev_int)) av_nil)))
    (bv_one (sv_ret (ev_if (tv_cmp (fun _ _ => op_isN) ok_is (lv_var (i := 1) rfl (by first | exact Or.inl rfl | exact Or.inr (Or.inl rfl) | exact Or.inr (Or.inr rfl))) (lv_ev ev_non) (nomark _)) ev_non (ev_tup (ae_cons (ev_cmp (fun _ h => or_eq h) ok_eq (lv_ev (ev_ix (lv_var (i := 0) rfl (by first | exact Or.inl rfl | exact Or.inr (Or.inl rfl) | exact Or.inr (Or.inr rfl))) (lv_ev ev_int))) (lv_ev ev_str) (nomark _)) (ae_cons (ev_var (i := 1) rfl (by first | exact Or.inl rfl | exact Or.inr (Or.inl rfl) | exact Or.inr (Or.inr rfl))) ae_nil))))))))
theorem g_read_share {c : Pc} {f : Addr} {fd : FuncData} (T : Txt c) (F : Fun c.K "read_share" "read_share" s_read_share f fd) (hm : c.mg "read_share" = some (.ref f)) (G_read_number : FnC c 3 "read_number" n_read_number 1 m_read_number) : FnC c 4 "read_share" n_read_share 1 m_read_share :=
  ⟨f, fd, ["words"], fn_ok F sc_read_share (b_read_share T G_read_number), hm, F.kp, F.binds (ps := ["words"]) fun _ _ _ _ _ _ us hl => match us, hl with | [_], _ => rfl⟩
/-! read_way -/
abbrev s_read_way : Stmt := top 15
abbrev n_read_way : List Str := ["words", "places", "word"]
theorem sc_read_way : FnScope n_read_way ["words"] (defScope s_read_way) := ⟨rfl, rfl, rfl, by decide +kernel, rfl, by decide +kernel, by decide +kernel⟩
def m_read_way : MS :=
    (mSeq (mAsgF 1 (mLc [2] (iAny (mSl dSlL (lVar 0) (oSome (mC (.int 1))) oNone)) (gN 2) mYes (mCallV n_read_place 1 m_read_place (cImm (mVar 2) cNil))))
    (mSeq (mIfS (mAnd (mTru (lVar 0)) (mOr (mTest (mBin (dEqv true) (lFix (mBin dIx (lVar 0) (lFix (mC (.int 0))))) (lFix (mC (.str "way"))))) (mOr (mNot (mTru (lVar 1))) (mTest (mBin (dInP false) (lFix (mC .non)) (lVar 1))))))
    (mRet (mC .non))
    mNext)
    (mRet (mVar 1))))
theorem b_read_way {c : Pc} (T : Txt c) (G_read_place : FnC c 4 "read_place" n_read_place 1 m_read_place) : BV (c.z 4 n_read_way (defScope s_read_way)) (defBody s_read_way) m_read_way :=
    (bv_cons (sv_asgLc (i := 1) (own := ([("word", 2)] : List (Str × Nat))) rfl rfl rfl (iv_any (ef_slL (lv_var (i := 0) rfl (by first | exact Or.inl rfl | exact Or.inr (Or.inl rfl) | exact Or.inr (Or.inr rfl))) (ov_some ev_int) ov_none).ev) (blkOk_by (N := n_read_way) (sc := defScope s_read_way) (own := ([("word", 2)] : List (Str × Nat))) (by decide +kernel)) (gv_name (i := 2) rfl (by first | exact Or.inr rfl | exact Or.inl ⟨rfl, Or.inl rfl⟩ | exact Or.inl ⟨rfl, Or.inr rfl⟩)) cv_nil (ev_call (G_read_place.zb (by decide)) (by rfl) (av_imm (ev_var (i := 2) rfl (by first | exact Or.inl rfl | exact Or.inr (Or.inl rfl) | exact Or.inr (Or.inr rfl))) av_nil)) (hl := by rfl) (ha := by decide +kernel))
    (bv_cons (sv_if ((wv_and (tv_tru (lv_var (i := 0) rfl (by first | exact Or.inl rfl | exact Or.inr (Or.inl rfl) | exact Or.inr (Or.inr rfl)))) (wv_and1 ((wv_or (tv_cmp (fun _ h => or_ne h) ok_ne (lv_ev (ev_ix (lv_var (i := 0) rfl (by first | exact Or.inl rfl | exact Or.inr (Or.inl rfl) | exact Or.inr (Or.inr rfl))) (lv_ev ev_int))) (lv_ev ev_str) (nomark _)) (wv_or (tv_not (tv_tru (lv_var (i := 1) rfl (by first | exact Or.inl rfl | exact Or.inr (Or.inl rfl) | exact Or.inr (Or.inr rfl))))) (wv_or1 (tv_cmp (fun _ h => or_inP h) ok_inP (lv_ev ev_non) (lv_var (i := 1) rfl (by first | exact Or.inl rfl | exact Or.inr (Or.inl rfl) | exact Or.inr (Or.inr rfl))) (by rfl)))))).tv))).tv
    (bv_one (sv_ret ev_non))
    bv_nil)
    (bv_one (sv_ret (ev_var (i := 1) rfl (by first | exact Or.inl rfl | exact Or.inr (Or.inl rfl) | exact Or.inr (Or.inr rfl)))))))
theorem g_read_way {c : Pc} {f : Addr} {fd : FuncData} (T : Txt c) (F : Fun c.K "read_way" "read_way" s_read_way f fd) (hm : c.mg "read_way" = some (.ref f)) (G_read_place : FnC c 4 "read_place" n_read_place 1 m_read_place) : FnC c 5 "read_way" n_read_way 1 m_read_way :=
  ⟨f, fd, ["words"], fn_ok F sc_read_way (b_read_way T G_read_place), hm, F.kp, F.binds (ps := ["words"]) fun _ _ _ _ _ _ us hl => match us, hl with | [_], _ => rfl⟩
/-! read_errand -/
abbrev s_read_errand : Stmt := top 16
abbrev n_read_errand : List Str := ["words", "order", "loaded", "further", "share", "way"]
theorem sc_read_errand : FnScope n_read_errand ["words"] (defScope s_read_errand) := ⟨rfl, rfl, rfl, by decide +kernel, rfl, by decide +kernel, by decide +kernel⟩
def m_read_errand : MS :=
    (mSeq (mAsg 1 (mC .non))
    (mSeq (mAsg 2 (mC (.bl false)))
    (mSeq (mAsg 3 (mVar 0))
    (mSeq (mIfS (mAnd (mTru (lVar 0)) (mTest (mBin (dEqv true) (lFix (mBin dIx (lVar 0) (lFix (mC (.int 0))))) (lFix (mC (.str "way"))))))
    (mSeq (mAsg 4 (mCallV n_read_share 1 m_read_share (cImm (mSl dSlL (lVar 0) oNone (oSome (mC (.int 2)))) cNil)))
    (mSeq (mIfS (mTest (mBin (dIs false) (lVar 4) (lFix (mC .non))))
    (mRet (mC .non))
    mNext)
    (mSeq (mAsgG (gT 2 (gsCons (gN 2) (gsCons (gN 1) gsNil))) (mVar 4))
    (mAsg 3 (mSl dSlL (lVar 0) (oSome (mC (.int 2))) oNone)))))
    mNext)
    (mSeq (mAsg 5 (mCallV n_read_way 1 m_read_way (cBor 3 cNil)))
    (mRet (mIf (mTest (mBin (dIs false) (lVar 5) (lFix (mC .non)))) (mC .non) (mTup (aCons (mVar 1) (aCons (mVar 2) (aCons (mVar 5) aNil)))))))))))
theorem b_read_errand {c : Pc} (T : Txt c) (G_read_share : FnC c 4 "read_share" n_read_share 1 m_read_share) (G_read_way : FnC c 5 "read_way" n_read_way 1 m_read_way) : BV (c.z 5 n_read_errand (defScope s_read_errand)) (defBody s_read_errand) m_read_errand :=
    (bv_cons (sv_asg (i := 1) rfl (by first | exact Or.inr rfl | exact Or.inl ⟨rfl, Or.inl rfl⟩ | exact Or.inl ⟨rfl, Or.inr rfl⟩) ev_non)
    (bv_cons (sv_asg (i := 2) rfl (by first | exact Or.inr rfl | exact Or.inl ⟨rfl, Or.inl rfl⟩ | exact Or.inl ⟨rfl, Or.inr rfl⟩) ev_bl)
    (bv_cons (sv_asg (i := 3) rfl (by first | exact Or.inr rfl | exact Or.inl ⟨rfl, Or.inl rfl⟩ | exact Or.inl ⟨rfl, Or.inr rfl⟩) (ev_var (i := 0) rfl (by first | exact Or.inl rfl | exact Or.inr (Or.inl rfl) | exact Or.inr (Or.inr rfl))))
    (bv_cons (sv_if ((wv_and (tv_tru (lv_var (i := 0) rfl (by first | exact Or.inl rfl | exact Or.inr (Or.inl rfl) | exact Or.inr (Or.inr rfl)))) (wv_and1 (tv_cmp (fun _ h => or_ne h) ok_ne (lv_ev (ev_ix (lv_var (i := 0) rfl (by first | exact Or.inl rfl | exact Or.inr (Or.inl rfl) | exact Or.inr (Or.inr rfl))) (lv_ev ev_int))) (lv_ev ev_str) (nomark _))))).tv
    (bv_cons (sv_asg (i := 4) rfl (by first | exact Or.inr rfl | exact Or.inl ⟨rfl, Or.inl rfl⟩ | exact Or.inl ⟨rfl, Or.inr rfl⟩) (ev_call (G_read_share.z (by decide)) (by rfl) (av_imm (ef_slL (lv_var (i := 0) rfl (by first | exact Or.inl rfl | exact Or.inr (Or.inl rfl) | exact Or.inr (Or.inr rfl))) ov_none (ov_some ev_int)).ev av_nil)))
    (bv_cons (sv_if (tv_cmp (fun _ _ => op_isN) ok_is (lv_var (i := 4) rfl (by first | exact Or.inl rfl | exact Or.inr (Or.inl rfl) | exact Or.inr (Or.inr rfl))) (lv_ev ev_non) (nomark _))
    (bv_one (sv_ret ev_non))
    bv_nil)
    (bv_cons (sv_asgG (gv_tup (gvs_cons (gv_name (i := 2) rfl (by first | exact Or.inr rfl | exact Or.inl ⟨rfl, Or.inl rfl⟩ | exact Or.inl ⟨rfl, Or.inr rfl⟩)) (gvs_cons (gv_name (i := 1) rfl (by first | exact Or.inr rfl | exact Or.inl ⟨rfl, Or.inl rfl⟩ | exact Or.inl ⟨rfl, Or.inr rfl⟩)) gvs_nil))) (ev_var (i := 4) rfl (by first | exact Or.inl rfl | exact Or.inr (Or.inl rfl) | exact Or.inr (Or.inr rfl))))
    (bv_one (sv_asg (i := 3) rfl (by first | exact Or.inr rfl | exact Or.inl ⟨rfl, Or.inl rfl⟩ | exact Or.inl ⟨rfl, Or.inr rfl⟩) (ef_slL (lv_var (i := 0) rfl (by first | exact Or.inl rfl | exact Or.inr (Or.inl rfl) | exact Or.inr (Or.inr rfl))) (ov_some ev_int) ov_none).ev)))))
    bv_nil)
    (bv_cons (sv_asg (i := 5) rfl (by first | exact Or.inr rfl | exact Or.inl ⟨rfl, Or.inl rfl⟩ | exact Or.inl ⟨rfl, Or.inr rfl⟩) (ev_call (G_read_way.z (by decide)) (by rfl) (av_bor (i := 3) rfl (by first | exact Or.inl rfl | exact Or.inr (Or.inl rfl) | exact Or.inr (Or.inr rfl)) av_nil)))
    (bv_one (sv_ret (ev_if (tv_cmp (fun _ _ => op_isN) ok_is (lv_var (i := 5) rfl (by first | exact Or.inl rfl | exact Or.inr (Or.inl rfl) | exact Or.inr (Or.inr rfl))) (lv_ev ev_non) (nomark _)) ev_non (ev_tup (ae_cons (ev_var (i := 1) rfl (by first | exact Or.inl rfl | exact Or.inr (Or.inl rfl) | exact Or.inr (Or.inr rfl))) (ae_cons (ev_var (i := 2) rfl (by first | exact Or.inl rfl | exact Or.inr (Or.inl rfl) | exact Or.inr (Or.inr rfl))) (ae_cons (ev_var (i := 5) rfl (by first | exact Or.inl rfl | exact Or.inr (Or.inl rfl) | exact Or.inr (Or.inr rfl))) ae_nil))))))))))))
theorem g_read_errand {c : Pc} {f : Addr} {fd : FuncData} (T : Txt c) (F : Fun c.K "read_errand" "read_errand" s_read_errand f fd) (hm : c.mg "read_errand" = some (.ref f)) (G_read_share : FnC c 4 "read_share" n_read_share 1 m_read_share) (G_read_way : FnC c 5 "read_way" n_read_way 1 m_read_way) : FnC c 6 "read_errand" n_read_errand 1 m_read_errand :=
  ⟨f, fd, ["words"], fn_ok F sc_read_errand (b_read_errand T G_read_share G_read_way), hm, F.kp, F.binds (ps := ["words"]) fun _ _ _ _ _ _ us hl => match us, hl with | [_], _ => rfl⟩
/-! read_robot -/
abbrev s_read_robot : Stmt := top 17
abbrev n_read_robot : List Str := ["number", "words", "place", "errand", "order", "loaded", "way"]
theorem sc_read_robot : FnScope n_read_robot ["number", "words"] (defScope s_read_robot) := ⟨rfl, rfl, rfl, by decide +kernel, rfl, by decide +kernel, by decide +kernel⟩
def m_read_robot : MS :=
    (mSeq (mIfS (mOr (mTest (mBin dLt (lFix (mBi dLen (bCons (lVar 1) bNil))) (lFix (mC (.int 4))))) (mOr (mTest (mBin (dEqv true) (lFix (mBin dIx (lVar 1) (lFix (mC (.int 0))))) (lFix (mC (.str "robot"))))) (mTest (mBin (dEqv true) (lFix (mCallV n_read_number 1 m_read_number (cImm (mBin dIx (lVar 1) (lFix (mC (.int 1)))) cNil))) (lVar 0)))))
    (mRet (mC .non))
    mNext)
    (mSeq (mAsg 2 (mCallV n_read_place 1 m_read_place (cImm (mBin dIx (lVar 1) (lFix (mC (.int 2)))) cNil)))
    (mSeq (mAsg 3 (mCallV n_read_errand 1 m_read_errand (cImm (mSl dSlL (lVar 1) (oSome (mC (.int 4))) oNone) cNil)))
    (mSeq (mIfS (mOr (mAnd (mTest (mBin (dIs false) (lVar 2) (lFix (mC .non)))) (mTest (mBin (dEqv true) (lFix (mBin dIx (lVar 1) (lFix (mC (.int 2))))) (lFix (mC (.str "depot")))))) (mOr (mTest (mBin (dIn true) (lFix (mBin dIx (lVar 1) (lFix (mC (.int 3))))) (lFix (mTup (aCons (mC (.str "broken")) (aCons (mC (.str "runs")) aNil)))))) (mTest (mBin (dIs false) (lVar 3) (lFix (mC .non))))))
    (mRet (mC .non))
    mNext)
    (mSeq (mAsgG (gT 3 (gsCons (gN 4) (gsCons (gN 5) (gsCons (gN 6) gsNil)))) (mVar 3))
    (mRet (mTup (aCons (mVar 2) (aCons (mBin (dEqv false) (lFix (mBin dIx (lVar 1) (lFix (mC (.int 3))))) (lFix (mC (.str "broken")))) (aCons (mVar 4) (aCons (mVar 5) (aCons (mVar 6) aNil))))))))))))
theorem b_read_robot {c : Pc} (T : Txt c) (G_read_number : FnC c 3 "read_number" n_read_number 1 m_read_number) (G_read_place : FnC c 4 "read_place" n_read_place 1 m_read_place) (G_read_errand : FnC c 6 "read_errand" n_read_errand 1 m_read_errand) : BV (c.z 6 n_read_robot (defScope s_read_robot)) (defBody s_read_robot) m_read_robot :=
    (bv_cons (sv_if ((wv_or (tv_cmp (fun _ _ => op_lt) ok_cmp (lv_ev (ev_callB (fun _ h => cr_len h) ok_len (by rfl) T.b_len (by decide +kernel) (al_cons (lv_var (i := 1) rfl (by first | exact Or.inl rfl | exact Or.inr (Or.inl rfl) | exact Or.inr (Or.inr rfl))) al_nil))) (lv_ev ev_int) (nomark _)) (wv_or (tv_cmp (fun _ h => or_ne h) ok_ne (lv_ev (ev_ix (lv_var (i := 1) rfl (by first | exact Or.inl rfl | exact Or.inr (Or.inl rfl) | exact Or.inr (Or.inr rfl))) (lv_ev ev_int))) (lv_ev ev_str) (nomark _)) (wv_or1 (tv_cmp (fun _ h => or_ne h) ok_ne (lv_ev (ev_call (G_read_number.z (by decide)) (by rfl) (av_imm (ev_ix (lv_var (i := 1) rfl (by first | exact Or.inl rfl | exact Or.inr (Or.inl rfl) | exact Or.inr (Or.inr rfl))) (lv_ev ev_int)) av_nil))) (lv_var (i := 0) rfl (by first | exact Or.inl rfl | exact Or.inr (Or.inl rfl) | exact Or.inr (Or.inr rfl))) (nomark _)))))).tv
    (bv_one (sv_ret ev_non))
    bv_nil)
    (bv_cons (sv_asg (i := 2) rfl (by first | exact Or.inr rfl | exact Or.inl ⟨rfl, Or.inl rfl⟩ | exact Or.inl ⟨rfl, Or.inr rfl⟩) (ev_call (G_read_place.z (by decide)) (by rfl) (av_imm (ev_ix (lv_var (i := 1) rfl (by first | exact Or.inl rfl | exact Or.inr (Or.inl rfl) | exact Or.inr (Or.inr rfl))) (lv_ev ev_int)) av_nil)))
    (bv_cons (sv_asg (i := 3) rfl (by first | exact Or.inr rfl | exact Or.inl ⟨rfl, Or.inl rfl⟩ | exact Or.inl ⟨rfl, Or.inr rfl⟩) (ev_call (G_read_errand.z (by decide)) (by rfl) (av_imm (ef_slL (lv_var (i := 1) rfl (by first | exact Or.inl rfl | exact Or.inr (Or.inl rfl) | exact Or.inr (Or.inr rfl))) (ov_some ev_int) ov_none).ev av_nil)))
    (bv_cons (sv_if ((wv_or ((wv_and (tv_cmp (fun _ _ => op_isN) ok_is (lv_var (i := 2) rfl (by first | exact Or.inl rfl | exact Or.inr (Or.inl rfl) | exact Or.inr (Or.inr rfl))) (lv_ev ev_non) (nomark _)) (wv_and1 (tv_cmp (fun _ h => or_ne h) ok_ne (lv_ev (ev_ix (lv_var (i := 1) rfl (by first | exact Or.inl rfl | exact Or.inr (Or.inl rfl) | exact Or.inr (Or.inr rfl))) (lv_ev ev_int))) (lv_ev ev_str) (nomark _))))).tv (wv_or (tv_cmp (fun _ h => or_nin h) ok_nin (lv_ev (ev_ix (lv_var (i := 1) rfl (by first | exact Or.inl rfl | exact Or.inr (Or.inl rfl) | exact Or.inr (Or.inr rfl))) (lv_ev ev_int))) (lv_ev (ev_tup (ae_cons ev_str (ae_cons ev_str ae_nil)))) (by rfl)) (wv_or1 (tv_cmp (fun _ _ => op_isN) ok_is (lv_var (i := 3) rfl (by first | exact Or.inl rfl | exact Or.inr (Or.inl rfl) | exact Or.inr (Or.inr rfl))) (lv_ev ev_non) (nomark _)))))).tv
    (bv_one (sv_ret ev_non))
    bv_nil)
    (bv_cons (sv_asgG (gv_tup (gvs_cons (gv_name (i := 4) rfl (by first | exact Or.inr rfl | exact Or.inl ⟨rfl, Or.inl rfl⟩ | exact Or.inl ⟨rfl, Or.inr rfl⟩)) (gvs_cons (gv_name (i := 5) rfl (by first | exact Or.inr rfl | exact Or.inl ⟨rfl, Or.inl rfl⟩ | exact Or.inl ⟨rfl, Or.inr rfl⟩)) (gvs_cons (gv_name (i := 6) rfl (by first | exact Or.inr rfl | exact Or.inl ⟨rfl, Or.inl rfl⟩ | exact Or.inl ⟨rfl, Or.inr rfl⟩)) gvs_nil)))) (ev_var (i := 3) rfl (by first | exact Or.inl rfl | exact Or.inr (Or.inl rfl) | exact Or.inr (Or.inr rfl))))
    (bv_one (sv_ret (ev_tup (ae_cons (ev_var (i := 2) rfl (by first | exact Or.inl rfl | exact Or.inr (Or.inl rfl) | exact Or.inr (Or.inr rfl))) (ae_cons (ev_cmp (fun _ h => or_eq h) ok_eq (lv_ev (ev_ix (lv_var (i := 1) rfl (by first | exact Or.inl rfl | exact Or.inr (Or.inl rfl) | exact Or.inr (Or.inr rfl))) (lv_ev ev_int))) (lv_ev ev_str) (nomark _)) (ae_cons (ev_var (i := 4) rfl (by first | exact Or.inl rfl | exact Or.inr (Or.inl rfl) | exact Or.inr (Or.inr rfl))) (ae_cons (ev_var (i := 5) rfl (by first | exact Or.inl rfl | exact Or.inr (Or.inl rfl) | exact Or.inr (Or.inr rfl))) (ae_cons (ev_var (i := 6) rfl (by first | exact Or.inl rfl | exact Or.inr (Or.inl rfl) | exact Or.inr (Or.inr rfl))) ae_nil)))))))))))))
theorem g_read_robot {c : Pc} {f : Addr} {fd : FuncData} (T : Txt c) (F : Fun c.K "read_robot" "read_robot" s_read_robot f fd) (hm : c.mg "read_robot" = some (.ref f)) (G_read_number : FnC c 3 "read_number" n_read_number 1 m_read_number) (G_read_place : FnC c 4 "read_place" n_read_place 1 m_read_place) (G_read_errand : FnC c 6 "read_errand" n_read_errand 1 m_read_errand) : FnC c 7 "read_robot" n_read_robot 2 m_read_robot :=
  ⟨f, fd, ["number", "words"], fn_ok F sc_read_robot (b_read_robot T G_read_number G_read_place G_read_errand), hm, F.kp, F.binds (ps := ["number", "words"]) fun _ _ _ _ _ _ us hl => match us, hl with | [_, _], _ => rfl⟩
/-! read_order_state -/
abbrev s_read_order_state : Stmt := top 19
abbrev n_read_order_state : List Str := ["words", "share", "loaded", "robot"]
theorem sc_read_order_state : FnScope n_read_order_state ["words"] (defScope s_read_order_state) := ⟨rfl, rfl, rfl, by decide +kernel, rfl, by decide +kernel, by decide +kernel⟩
def m_read_order_state : MS :=
    (mSeq (mIfS (mTest (mBin (dEqv false) (lVar 0) (lFix (mLst (aCons (mC (.str "done")) aNil)))))
    (mRet (mTup (aCons (mC (.bl true)) (aCons (mC .non) (aCons (mC (.bl false)) aNil)))))
    mNext)
    (mSeq (mIfS (mTest (mBin (dEqv false) (lVar 0) (lFix (mLst (aCons (mC (.str "waits")) aNil)))))
    (mRet (mTup (aCons (mC (.bl false)) (aCons (mC .non) (aCons (mC (.bl false)) aNil)))))
    mNext)
    (mSeq (mAsg 1 (mCallV n_read_share 1 m_read_share (cBor 0 cNil)))
    (mSeq (mIfS (mTest (mBin (dIs false) (lVar 1) (lFix (mC .non))))
    (mRet (mC .non))
    mNext)
    (mSeq (mAsgG (gT 2 (gsCons (gN 2) (gsCons (gN 3) gsNil))) (mVar 1))
    (mRet (mTup (aCons (mC (.bl false)) (aCons (mVar 3) (aCons (mVar 2) aNil))))))))))
theorem b_read_order_state {c : Pc} (T : Txt c) (G_read_share : FnC c 4 "read_share" n_read_share 1 m_read_share) : BV (c.z 4 n_read_order_state (defScope s_read_order_state)) (defBody s_read_order_state) m_read_order_state :=
    (bv_cons (sv_if (tv_cmp (fun _ h => or_eq h) ok_eq (lv_var (i := 0) rfl (by first | exact Or.inl rfl | exact Or.inr (Or.inl rfl) | exact Or.inr (Or.inr rfl))) (lv_ev (ef_lst (ae_cons ev_str ae_nil)).ev) (nomark _))
    (bv_one (sv_ret (ev_tup (ae_cons ev_bl (ae_cons ev_non (ae_cons ev_bl ae_nil))))))
    bv_nil)
    (bv_cons (sv_if (tv_cmp (fun _ h => or_eq h) ok_eq (lv_var (i := 0) rfl (by first | exact Or.inl rfl | exact Or.inr (Or.inl rfl) | exact Or.inr (Or.inr rfl))) (lv_ev (ef_lst (ae_cons ev_str ae_nil)).ev) (nomark _))
    (bv_one (sv_ret (ev_tup (ae_cons ev_bl (ae_cons ev_non (ae_cons ev_bl ae_nil))))))
    bv_nil)
    (bv_cons (sv_asg (i := 1) rfl (by first | exact Or.inr rfl | exact Or.inl ⟨rfl, Or.inl rfl⟩ | exact Or.inl ⟨rfl, Or.inr rfl⟩) (ev_call (G_read_share.z (by decide)) (by rfl) (av_bor (i := 0) rfl (by first | exact Or.inl rfl | exact Or.inr (Or.inl rfl) | exact Or.inr (Or.inr rfl)) av_nil)))
    (bv_cons (sv_if (tv_cmp (fun _ _ => op_isN) ok_is (lv_var (i := 1) rfl (by first | exact Or.inl rfl | exact Or.inr (Or.inl rfl) | exact Or.inr (Or.inr rfl))) (lv_ev ev_non) (nomark _))
    (bv_one (sv_ret ev_non))
    bv_nil)
    (bv_cons (sv_asgG (gv_tup (gvs_cons (gv_name (i := 2) rfl (by first | exact Or.inr rfl | exact Or.inl ⟨rfl, Or.inl rfl⟩ | exact Or.inl ⟨rfl, Or.inr rfl⟩)) (gvs_cons (gv_name (i := 3) rfl (by first | exact Or.inr rfl | exact Or.inl ⟨rfl, Or.inl rfl⟩ | exact Or.inl ⟨rfl, Or.inr rfl⟩)) gvs_nil))) (ev_var (i := 1) rfl (by first | exact Or.inl rfl | exact Or.inr (Or.inl rfl) | exact Or.inr (Or.inr rfl))))
    (bv_one (sv_ret (ev_tup (ae_cons ev_bl (ae_cons (ev_var (i := 3) rfl (by first | exact Or.inl rfl | exact Or.inr (Or.inl rfl) | exact Or.inr (Or.inr rfl))) (ae_cons (ev_var (i := 2) rfl (by first | exact Or.inl rfl | exact Or.inr (Or.inl rfl) | exact Or.inr (Or.inr rfl))) ae_nil)))))))))))
theorem g_read_order_state {c : Pc} {f : Addr} {fd : FuncData} (T : Txt c) (F : Fun c.K "read_order_state" "read_order_state" s_read_order_state f fd) (hm : c.mg "read_order_state" = some (.ref f)) (G_read_share : FnC c 4 "read_share" n_read_share 1 m_read_share) : FnC c 5 "read_order_state" n_read_order_state 1 m_read_order_state :=
  ⟨f, fd, ["words"], fn_ok F sc_read_order_state (b_read_order_state T G_read_share), hm, F.kp, F.binds (ps := ["words"]) fun _ _ _ _ _ _ us hl => match us, hl with | [_], _ => rfl⟩
/-! is_letter -/
abbrev s_is_letter : Stmt := top 18
abbrev n_is_letter : List Str := ["word"]
theorem sc_is_letter : FnScope n_is_letter ["word"] (defScope s_is_letter) := ⟨rfl, rfl, rfl, by decide +kernel, rfl, by decide +kernel, by decide +kernel⟩
def m_is_letter : MS :=
    (mRet (mAndV (mBin (dEqv false) (lFix (mBi dLen (bCons (lVar 0) bNil))) (lFix (mC (.int 1)))) (mBin (dIn false) (lVar 0) (lFix (mC (.str "ABCDEFGH"))))))
theorem b_is_letter {c : Pc} (T : Txt c) : BV (c.z 0 n_is_letter (defScope s_is_letter)) (defBody s_is_letter) m_is_letter :=
    (bv_one (sv_ret (ev_and (ev_cmp (fun _ h => or_eq h) ok_eq (lv_ev (ev_callB (fun _ h => cr_len h) ok_len (by rfl) T.b_len (by decide +kernel) (al_cons (lv_var (i := 0) rfl (by first | exact Or.inl rfl | exact Or.inr (Or.inl rfl) | exact Or.inr (Or.inr rfl))) al_nil))) (lv_ev ev_int) (nomark _)) (ev_one (ev_cmp (fun _ h => or_in h) ok_in (lv_var (i := 0) rfl (by first | exact Or.inl rfl | exact Or.inr (Or.inl rfl) | exact Or.inr (Or.inr rfl))) (lv_ev (ev_glob (by rfl) (by exact T.c_STATIONS))) (by rfl))))))
theorem g_is_letter {c : Pc} {f : Addr} {fd : FuncData} (T : Txt c) (F : Fun c.K "is_letter" "is_letter" s_is_letter f fd) (hm : c.mg "is_letter" = some (.ref f)) : FnC c 1 "is_letter" n_is_letter 1 m_is_letter :=
  ⟨f, fd, ["word"], fn_ok F sc_is_letter (b_is_letter T), hm, F.kp, F.binds (ps := ["word"]) fun _ _ _ _ _ _ us hl => match us, hl with | [_], _ => rfl⟩
/-! read_order_row -/
abbrev s_read_order_row : Stmt := top 20
abbrev n_read_order_row : List Str := ["number", "words", "state", "done", "robot", "loaded"]
theorem sc_read_order_row : FnScope n_read_order_row ["number", "words"] (defScope s_read_order_row) := ⟨rfl, rfl, rfl, by decide +kernel, rfl, by decide +kernel, by decide +kernel⟩
def m_read_order_row : MS :=
    (mSeq (mIfS (mOr (mTest (mBin dLt (lFix (mBi dLen (bCons (lVar 1) bNil))) (lFix (mC (.int 4))))) (mOr (mTest (mBin (dEqv true) (lFix (mBin dIx (lVar 1) (lFix (mC (.int 0))))) (lFix (mC (.str "order"))))) (mTest (mBin (dEqv true) (lFix (mCallV n_read_number 1 m_read_number (cImm (mBin dIx (lVar 1) (lFix (mC (.int 1)))) cNil))) (lVar 0)))))
    (mRet (mC .non))
    mNext)
    (mSeq (mAsg 2 (mCallV n_read_order_state 1 m_read_order_state (cImm (mSl dSlL (lVar 1) (oSome (mC (.int 4))) oNone) cNil)))
    (mSeq (mIfS (mOr (mNot (mTru (lFix (mCallV n_is_letter 1 m_is_letter (cImm (mBin dIx (lVar 1) (lFix (mC (.int 2)))) cNil))))) (mOr (mNot (mTru (lFix (mCallV n_is_letter 1 m_is_letter (cImm (mBin dIx (lVar 1) (lFix (mC (.int 3)))) cNil))))) (mTest (mBin (dIs false) (lVar 2) (lFix (mC .non))))))
    (mRet (mC .non))
    mNext)
    (mSeq (mAsgG (gT 3 (gsCons (gN 3) (gsCons (gN 4) (gsCons (gN 5) gsNil)))) (mVar 2))
    (mRet (mTup (aCons (mBin dIx (lVar 1) (lFix (mC (.int 2)))) (aCons (mBin dIx (lVar 1) (lFix (mC (.int 3)))) (aCons (mVar 3) (aCons (mVar 4) (aCons (mVar 5) aNil)))))))))))
theorem b_read_order_row {c : Pc} (T : Txt c) (G_read_number : FnC c 3 "read_number" n_read_number 1 m_read_number) (G_read_order_state : FnC c 5 "read_order_state" n_read_order_state 1 m_read_order_state) (G_is_letter : FnC c 1 "is_letter" n_is_letter 1 m_is_letter) : BV (c.z 5 n_read_order_row (defScope s_read_order_row)) (defBody s_read_order_row) m_read_order_row :=
    (bv_cons (sv_if ((wv_or (tv_cmp (fun _ _ => op_lt) ok_cmp (lv_ev (ev_callB (fun _ h => cr_len h) ok_len (by rfl) T.b_len (by decide +kernel) (al_cons (lv_var (i := 1) rfl (by first | exact Or.inl rfl | exact Or.inr (Or.inl rfl) | exact Or.inr (Or.inr rfl))) al_nil))) (lv_ev ev_int) (nomark _)) (wv_or (tv_cmp (fun _ h => or_ne h) ok_ne (lv_ev (ev_ix (lv_var (i := 1) rfl (by first | exact Or.inl rfl | exact Or.inr (Or.inl rfl) | exact Or.inr (Or.inr rfl))) (lv_ev ev_int))) (lv_ev ev_str) (nomark _)) (wv_or1 (tv_cmp (fun _ h => or_ne h) ok_ne (lv_ev (ev_call (G_read_number.z (by decide)) (by rfl) (av_imm (ev_ix (lv_var (i := 1) rfl (by first | exact Or.inl rfl | exact Or.inr (Or.inl rfl) | exact Or.inr (Or.inr rfl))) (lv_ev ev_int)) av_nil))) (lv_var (i := 0) rfl (by first | exact Or.inl rfl | exact Or.inr (Or.inl rfl) | exact Or.inr (Or.inr rfl))) (nomark _)))))).tv
    (bv_one (sv_ret ev_non))
    bv_nil)
    (bv_cons (sv_asg (i := 2) rfl (by first | exact Or.inr rfl | exact Or.inl ⟨rfl, Or.inl rfl⟩ | exact Or.inl ⟨rfl, Or.inr rfl⟩) (ev_call (G_read_order_state.z (by decide)) (by rfl) (av_imm (ef_slL (lv_var (i := 1) rfl (by first | exact Or.inl rfl | exact Or.inr (Or.inl rfl) | exact Or.inr (Or.inr rfl))) (ov_some ev_int) ov_none).ev av_nil)))
    (bv_cons (sv_if ((wv_or (tv_not (tv_tru (lv_ev (ev_call (G_is_letter.z (by decide)) (by rfl) (av_imm (ev_ix (lv_var (i := 1) rfl (by first | exact Or.inl rfl | exact Or.inr (Or.inl rfl) | exact Or.inr (Or.inr rfl))) (lv_ev ev_int)) av_nil))))) (wv_or (tv_not (tv_tru (lv_ev (ev_call (G_is_letter.z (by decide)) (by rfl) (av_imm (ev_ix (lv_var (i := 1) rfl (by first | exact Or.inl rfl | exact Or.inr (Or.inl rfl) | exact Or.inr (Or.inr rfl))) (lv_ev ev_int)) av_nil))))) (wv_or1 (tv_cmp (fun _ _ => op_isN) ok_is (lv_var (i := 2) rfl (by first | exact Or.inl rfl | exact Or.inr (Or.inl rfl) | exact Or.inr (Or.inr rfl))) (lv_ev ev_non) (nomark _)))))).tv
    (bv_one (sv_ret ev_non))
    bv_nil)
    (bv_cons (sv_asgG (gv_tup (gvs_cons (gv_name (i := 3) rfl (by first | exact Or.inr rfl | exact Or.inl ⟨rfl, Or.inl rfl⟩ | exact Or.inl ⟨rfl, Or.inr rfl⟩)) (gvs_cons (gv_name (i := 4) rfl (by first | exact Or.inr rfl | exact Or.inl ⟨rfl, Or.inl rfl⟩ | exact Or.inl ⟨rfl, Or.inr rfl⟩)) (gvs_cons (gv_name (i := 5) rfl (by first | exact Or.inr rfl | exact Or.inl ⟨rfl, Or.inl rfl⟩ | exact Or.inl ⟨rfl, Or.inr rfl⟩)) gvs_nil)))) (ev_var (i := 2) rfl (by first | exact Or.inl rfl | exact Or.inr (Or.inl rfl) | exact Or.inr (Or.inr rfl))))
    (bv_one (sv_ret (ev_tup (ae_cons (ev_ix (lv_var (i := 1) rfl (by first | exact Or.inl rfl | exact Or.inr (Or.inl rfl) | exact Or.inr (Or.inr rfl))) (lv_ev ev_int)) (ae_cons (ev_ix (lv_var (i := 1) rfl (by first | exact Or.inl rfl | exact Or.inr (Or.inl rfl) | exact Or.inr (Or.inr rfl))) (lv_ev ev_int)) (ae_cons (ev_var (i := 3) rfl (by first | exact Or.inl rfl | exact Or.inr (Or.inl rfl) | exact Or.inr (Or.inr rfl))) (ae_cons (ev_var (i := 4) rfl (by first | exact Or.inl rfl | exact Or.inr (Or.inl rfl) | exact Or.inr (Or.inr rfl))) (ae_cons (ev_var (i := 5) rfl (by first | exact Or.inl rfl | exact Or.inr (Or.inl rfl) | exact Or.inr (Or.inr rfl))) ae_nil))))))))))))
theorem g_read_order_row {c : Pc} {f : Addr} {fd : FuncData} (T : Txt c) (F : Fun c.K "read_order_row" "read_order_row" s_read_order_row f fd) (hm : c.mg "read_order_row" = some (.ref f)) (G_read_number : FnC c 3 "read_number" n_read_number 1 m_read_number) (G_read_order_state : FnC c 5 "read_order_state" n_read_order_state 1 m_read_order_state) (G_is_letter : FnC c 1 "is_letter" n_is_letter 1 m_is_letter) : FnC c 6 "read_order_row" n_read_order_row 2 m_read_order_row :=
  ⟨f, fd, ["number", "words"], fn_ok F sc_read_order_row (b_read_order_row T G_read_number G_read_order_state G_is_letter), hm, F.kp, F.binds (ps := ["number", "words"]) fun _ _ _ _ _ _ us hl => match us, hl with | [_, _], _ => rfl⟩
/-! read_report -/
abbrev s_read_report : Stmt := top 21
abbrev n_read_report : List Str := ["text", "robots", "orders", "lines", "at", "line", "words", "robot", "order"]
theorem sc_read_report : FnScope n_read_report ["text"] (defScope s_read_report) := ⟨rfl, rfl, rfl, by decide +kernel, rfl, by decide +kernel, by decide +kernel⟩
def m_read_report : MS :=
    (mSeq (mAsgF 1 (mLst aNil))
    (mSeq (mAsgF 2 (mLst aNil))
    (mSeq (mAsg 3 (mIf (mTru (lVar 0)) (mM1 fSplit (mVar 0) (mC (.str "\n"))) (mLst aNil)))
    (mSeq (mForS (iEn (aCons (mVar 3) aNil)) (gT 2 (gsCons (gN 4) (gsCons (gN 5) gsNil)))
    (mSeq (mAsg 6 (mM1 fSplit (mVar 5) (mC (.str " "))))
    (mSeq (mAsg 7 (mIf (mTru (lVar 2)) (mC .non) (mCallV n_read_robot 2 m_read_robot (cImm (mBi dLen (bCons (lVar 1) bNil)) (cBor 6 cNil)))))
    (mSeq (mAsg 8 (mCallV n_read_order_row 2 m_read_order_row (cImm (mBi dLen (bCons (lVar 2) bNil)) (cBor 6 cNil))))
    (mIfS (mTest (mBin (dIs true) (lVar 7) (lFix (mC .non))))
    (mApp 1 (mVar 7))
    (mIfS (mTest (mBin (dIs true) (lVar 8) (lFix (mC .non))))
    (mApp 2 (mVar 8))
    mNever))))))
    (mRet (mTup (aCons (mVar 1) (aCons (mVar 2) aNil))))))))
theorem b_read_report {c : Pc} (T : Txt c) (G_read_robot : FnC c 7 "read_robot" n_read_robot 2 m_read_robot) (G_read_order_row : FnC c 6 "read_order_row" n_read_order_row 2 m_read_order_row) : BV (c.z 7 n_read_report (defScope s_read_report)) (defBody s_read_report) m_read_report :=
    (bv_cons (sv_asgF (i := 1) rfl (by first | exact Or.inr rfl | exact Or.inl ⟨rfl, Or.inl rfl⟩ | exact Or.inl ⟨rfl, Or.inr rfl⟩) (ef_lst ae_nil))
    (bv_cons (sv_asgF (i := 2) rfl (by first | exact Or.inr rfl | exact Or.inl ⟨rfl, Or.inl rfl⟩ | exact Or.inl ⟨rfl, Or.inr rfl⟩) (ef_lst ae_nil))
    (bv_cons (sv_asg (i := 3) rfl (by first | exact Or.inr rfl | exact Or.inl ⟨rfl, Or.inl rfl⟩ | exact Or.inl ⟨rfl, Or.inr rfl⟩) (ev_if (tv_tru (lv_var (i := 0) rfl (by first | exact Or.inl rfl | exact Or.inr (Or.inl rfl) | exact Or.inr (Or.inr rfl)))) (ef_split (ev_var (i := 0) rfl (by first | exact Or.inl rfl | exact Or.inr (Or.inl rfl) | exact Or.inr (Or.inr rfl))) ev_str).ev (ef_lst ae_nil).ev))
    (bv_cons (sv_for (iv_enum (by rfl) T.b_enumerate (ae_cons (ev_var (i := 3) rfl (by first | exact Or.inl rfl | exact Or.inr (Or.inl rfl) | exact Or.inr (Or.inr rfl))) ae_nil)) (gv_tup (gvs_cons (gv_name (i := 4) rfl (by first | exact Or.inr rfl | exact Or.inl ⟨rfl, Or.inl rfl⟩ | exact Or.inl ⟨rfl, Or.inr rfl⟩)) (gvs_cons (gv_name (i := 5) rfl (by first | exact Or.inr rfl | exact Or.inl ⟨rfl, Or.inl rfl⟩ | exact Or.inl ⟨rfl, Or.inr rfl⟩)) gvs_nil)))
    (bv_cons (sv_asg (i := 6) rfl (by first | exact Or.inr rfl | exact Or.inl ⟨rfl, Or.inl rfl⟩ | exact Or.inl ⟨rfl, Or.inr rfl⟩) (ef_split (ev_var (i := 5) rfl (by first | exact Or.inl rfl | exact Or.inr (Or.inl rfl) | exact Or.inr (Or.inr rfl))) ev_str).ev)
    (bv_cons (sv_asg (i := 7) rfl (by first | exact Or.inr rfl | exact Or.inl ⟨rfl, Or.inl rfl⟩ | exact Or.inl ⟨rfl, Or.inr rfl⟩) (ev_if (tv_tru (lv_var (i := 2) rfl (by first | exact Or.inl rfl | exact Or.inr (Or.inl rfl) | exact Or.inr (Or.inr rfl)))) ev_non (ev_call (G_read_robot.z (by decide)) (by rfl) (av_imm (ev_callB (fun _ h => cr_len h) ok_len (by rfl) T.b_len (by decide +kernel) (al_cons (lv_var (i := 1) rfl (by first | exact Or.inl rfl | exact Or.inr (Or.inl rfl) | exact Or.inr (Or.inr rfl))) al_nil)) (av_bor (i := 6) rfl (by first | exact Or.inl rfl | exact Or.inr (Or.inl rfl) | exact Or.inr (Or.inr rfl)) av_nil)))))
    (bv_cons (sv_asg (i := 8) rfl (by first | exact Or.inr rfl | exact Or.inl ⟨rfl, Or.inl rfl⟩ | exact Or.inl ⟨rfl, Or.inr rfl⟩) (ev_call (G_read_order_row.z (by decide)) (by rfl) (av_imm (ev_callB (fun _ h => cr_len h) ok_len (by rfl) T.b_len (by decide +kernel) (al_cons (lv_var (i := 2) rfl (by first | exact Or.inl rfl | exact Or.inr (Or.inl rfl) | exact Or.inr (Or.inr rfl))) al_nil)) (av_bor (i := 6) rfl (by first | exact Or.inl rfl | exact Or.inr (Or.inl rfl) | exact Or.inr (Or.inr rfl)) av_nil))))
    (bv_one (sv_if (tv_cmp (fun _ _ => op_notN) ok_isnot (lv_var (i := 7) rfl (by first | exact Or.inl rfl | exact Or.inr (Or.inl rfl) | exact Or.inr (Or.inr rfl))) (lv_ev ev_non) (nomark _))
    (bv_one (sv_append (i := 1) rfl (by first | exact Or.inl rfl | exact Or.inr (Or.inl rfl) | exact Or.inr (Or.inr rfl)) (ev_var (i := 7) rfl (by first | exact Or.inl rfl | exact Or.inr (Or.inl rfl) | exact Or.inr (Or.inr rfl)))))
    (bv_one (sv_if (tv_cmp (fun _ _ => op_notN) ok_isnot (lv_var (i := 8) rfl (by first | exact Or.inl rfl | exact Or.inr (Or.inl rfl) | exact Or.inr (Or.inr rfl))) (lv_ev ev_non) (nomark _))
    (bv_one (sv_append (i := 2) rfl (by first | exact Or.inl rfl | exact Or.inr (Or.inl rfl) | exact Or.inr (Or.inr rfl)) (ev_var (i := 8) rfl (by first | exact Or.inl rfl | exact Or.inr (Or.inl rfl) | exact Or.inr (Or.inr rfl)))))
    (bv_one sv_never)))))))))
    (bv_one (sv_ret (ev_tup (ae_cons (ev_var (i := 1) rfl (by first | exact Or.inl rfl | exact Or.inr (Or.inl rfl) | exact Or.inr (Or.inr rfl))) (ae_cons (ev_var (i := 2) rfl (by first | exact Or.inl rfl | exact Or.inr (Or.inl rfl) | exact Or.inr (Or.inr rfl))) ae_nil)))))))))
theorem g_read_report {c : Pc} {f : Addr} {fd : FuncData} (T : Txt c) (F : Fun c.K "read_report" "read_report" s_read_report f fd) (hm : c.mg "read_report" = some (.ref f)) (G_read_robot : FnC c 7 "read_robot" n_read_robot 2 m_read_robot) (G_read_order_row : FnC c 6 "read_order_row" n_read_order_row 2 m_read_order_row) : FnC c 8 "read_report" n_read_report 1 m_read_report :=
  ⟨f, fd, ["text"], fn_ok F sc_read_report (b_read_report T G_read_robot G_read_order_row), hm, F.kp, F.binds (ps := ["text"]) fun _ _ _ _ _ _ us hl => match us, hl with | [_], _ => rfl⟩
/-! _law_is_row -/
abbrev s_law_is_row : Stmt := top 31
abbrev n_law_is_row : List Str := ["row"]
theorem sc_law_is_row : FnScope n_law_is_row ["row"] (defScope s_law_is_row) := ⟨rfl, rfl, rfl, by decide +kernel, rfl, by decide +kernel, by decide +kernel⟩
def m_law_is_row : MS :=
    (mRet (mAndV (mBi dIsi (bCons (lVar 0) (bCons (lFix (mC (.typ "tuple"))) bNil))) (mBin (dEqv false) (lFix (mBi dLen (bCons (lVar 0) bNil))) (lFix (mC (.int 5))))))
theorem b_law_is_row {c : Pc} (T : Txt c) : BV (c.z 0 n_law_is_row (defScope s_law_is_row)) (defBody s_law_is_row) m_law_is_row :=
    (bv_one (sv_ret (ev_and (ev_callB (fun _ h => cr_isi h) ok_isi (by rfl) T.b_isinstance (by decide +kernel) (al_cons (lv_var (i := 0) rfl (by first | exact Or.inl rfl | exact Or.inr (Or.inl rfl) | exact Or.inr (Or.inr rfl))) (al_cons (lv_ev (ev_ty (by rfl) T.b_tuple (by decide +kernel))) al_nil))) (ev_one (ev_cmp (fun _ h => or_eq h) ok_eq (lv_ev (ev_callB (fun _ h => cr_len h) ok_len (by rfl) T.b_len (by decide +kernel) (al_cons (lv_var (i := 0) rfl (by first | exact Or.inl rfl | exact Or.inr (Or.inl rfl) | exact Or.inr (Or.inr rfl))) al_nil))) (lv_ev ev_int) (nomark _))))))
theorem g_law_is_row {c : Pc} {f : Addr} {fd : FuncData} (T : Txt c) (F : Fun c.K "_law_is_row" "_law_is_row" s_law_is_row f fd) (hm : c.mg "_law_is_row" = some (.ref f)) : FnC c 1 "_law_is_row" n_law_is_row 1 m_law_is_row :=
  ⟨f, fd, ["row"], fn_ok F sc_law_is_row (b_law_is_row T), hm, F.kp, F.binds (ps := ["row"]) fun _ _ _ _ _ _ us hl => match us, hl with | [_], _ => rfl⟩
/-! law -/
abbrev s_law : Stmt := top 32
abbrev n_law : List Str := ["script", "box", "rows", "text", "lines", "told", "row"]
theorem sc_law : FnScope n_law ["script"] (defScope s_law) := ⟨rfl, rfl, rfl, by decide +kernel, rfl, by decide +kernel, by decide +kernel⟩
def m_law : MS :=
    (mSeq (mAsgF 1 (mLst (aCons (mCallV n_law_digits 3 m_law_digits (cImm (mVar 0) (cImm (mC (.int 0)) (cImm (mC (.int 63)) cNil)))) (aCons (mC (.int 0)) aNil))))
    (mSeq (mAsg 2 (mCallV n_law_told 1 m_law_told (cIo 1 cNil)))
    (mSeq (mAsg 3 (mCallV n_write_report 2 m_write_report (cImm (mBin dIx (lVar 2) (lFix (mC (.int 0)))) (cImm (mBin dIx (lVar 2) (lFix (mC (.int 1)))) cNil))))
    (mSeq (mIfS (mNot (mTru (lFix (mBi dIsi (bCons (lVar 3) (bCons (lFix (mC (.typ "str"))) bNil))))))
    (mRet (mC (.bl false)))
    mNext)
    (mSeq (mAsg 4 (mM1 fSplit (mVar 3) (mC (.str "\n"))))
    (mSeq (mIfS (mTest (mBin (dEqv false) (lFix (mBin dAdd (lFix (mBi dLen (bCons (lFix (mBin dIx (lVar 2) (lFix (mC (.int 0))))) bNil))) (lFix (mBi dLen (bCons (lFix (mBin dIx (lVar 2) (lFix (mC (.int 1))))) bNil))))) (lFix (mC (.int 0)))))
    (mSeq (mAsg 4 (mLst aNil))
    (mIfS (mTest (mBin (dEqv true) (lVar 3) (lFix (mC (.str "")))))
    (mRet (mC (.bl false)))
    mNext))
    mNext)
    (mSeq (mIfS (mTest (mBin (dEqv true) (lFix (mBi dLen (bCons (lVar 4) bNil))) (lFix (mBin dAdd (lFix (mBi dLen (bCons (lFix (mBin dIx (lVar 2) (lFix (mC (.int 0))))) bNil))) (lFix (mBi dLen (bCons (lFix (mBin dIx (lVar 2) (lFix (mC (.int 1))))) bNil)))))))
    (mRet (mC (.bl false)))
    mNext)
    (mSeq (mAsg 5 (mCallV n_read_report 1 m_read_report (cImm (mVar 3) cNil)))
    (mSeq (mIfS (mOr (mNot (mTru (lFix (mBi dIsi (bCons (lVar 5) (bCons (lFix (mC (.typ "tuple"))) bNil)))))) (mOr (mTest (mBin (dEqv true) (lFix (mBi dLen (bCons (lVar 5) bNil))) (lFix (mC (.int 2))))) (mOr (mNot (mTru (lFix (mBi dIsi (bCons (lFix (mBin dIx (lVar 5) (lFix (mC (.int 0))))) (bCons (lFix (mC (.typ "list"))) bNil)))))) (mNot (mTru (lFix (mBi dIsi (bCons (lFix (mBin dIx (lVar 5) (lFix (mC (.int 1))))) (bCons (lFix (mC (.typ "list"))) bNil)))))))))
    (mRet (mC (.bl false)))
    mNext)
    (mSeq (mForS (iAny (mBin dCat (lFix (mBin dIx (lVar 5) (lFix (mC (.int 0))))) (lFix (mBin dIx (lVar 5) (lFix (mC (.int 1))))))) (gN 6)
    (mIfS (mNot (mTru (lFix (mCallV n_law_is_row 1 m_law_is_row (cBor 6 cNil)))))
    (mRet (mC (.bl false)))
    mNext))
    (mSeq (mIfS (mOr (mTest (mBin (dEqv true) (lFix (mBin dIx (lVar 5) (lFix (mC (.int 0))))) (lFix (mBin dIx (lVar 2) (lFix (mC (.int 0))))))) (mTest (mBin (dEqv true) (lFix (mBin dIx (lVar 5) (lFix (mC (.int 1))))) (lFix (mBin dIx (lVar 2) (lFix (mC (.int 1))))))))
    (mRet (mC (.bl false)))
    mNext)
    (mRet (mBin (dEqv false) (lFix (mCallV n_write_report 2 m_write_report (cImm (mBin dIx (lVar 5) (lFix (mC (.int 0)))) (cImm (mBin dIx (lVar 5) (lFix (mC (.int 1)))) cNil)))) (lVar 3))))))))))))))
theorem b_law {c : Pc} (T : Txt c) (G_law_digits : FnC c 2 "_law_digits" n_law_digits 3 m_law_digits) (G_law_told : FnC c 4 "_law_told" n_law_told 1 m_law_told) (G_write_report : FnC c 3 "write_report" n_write_report 2 m_write_report) (G_read_report : FnC c 8 "read_report" n_read_report 1 m_read_report) (G_law_is_row : FnC c 1 "_law_is_row" n_law_is_row 1 m_law_is_row) : BV (c.z 8 n_law (defScope s_law)) (defBody s_law) m_law :=
    (bv_cons (sv_asgF (i := 1) rfl (by first | exact Or.inr rfl | exact Or.inl ⟨rfl, Or.inl rfl⟩ | exact Or.inl ⟨rfl, Or.inr rfl⟩) (ef_lst (ae_cons (ev_call (G_law_digits.z (by decide)) (by rfl) (av_imm (ev_var (i := 0) rfl (by first | exact Or.inl rfl | exact Or.inr (Or.inl rfl) | exact Or.inr (Or.inr rfl))) (av_imm ev_int (av_imm ev_int av_nil)))) (ae_cons ev_int ae_nil))))
    (bv_cons (sv_asg (i := 2) rfl (by first | exact Or.inr rfl | exact Or.inl ⟨rfl, Or.inl rfl⟩ | exact Or.inl ⟨rfl, Or.inr rfl⟩) (ev_call (G_law_told.z (by decide)) (by rfl) (av_io (i := 1) rfl (by first | exact Or.inl rfl | exact Or.inr (Or.inl rfl) | exact Or.inr (Or.inr rfl)) av_nil)))
    (bv_cons (sv_asg (i := 3) rfl (by first | exact Or.inr rfl | exact Or.inl ⟨rfl, Or.inl rfl⟩ | exact Or.inl ⟨rfl, Or.inr rfl⟩) (ev_call (G_write_report.z (by decide)) (by rfl) (av_imm (ev_ix (lv_var (i := 2) rfl (by first | exact Or.inl rfl | exact Or.inr (Or.inl rfl) | exact Or.inr (Or.inr rfl))) (lv_ev ev_int)) (av_imm (ev_ix (lv_var (i := 2) rfl (by first | exact Or.inl rfl | exact Or.inr (Or.inl rfl) | exact Or.inr (Or.inr rfl))) (lv_ev ev_int)) av_nil))))
    (bv_cons (sv_if (tv_not (tv_tru (lv_ev (ev_callB (fun _ h => cr_isi h) ok_isi (by rfl) T.b_isinstance (by decide +kernel) (al_cons (lv_var (i := 3) rfl (by first | exact Or.inl rfl | exact Or.inr (Or.inl rfl) | exact Or.inr (Or.inr rfl))) (al_cons (lv_ev (ev_ty (by rfl) T.b_str (by decide +kernel))) al_nil))))))
    (bv_one (sv_ret ev_bl))
    bv_nil)
    (bv_cons (sv_asg (i := 4) rfl (by first | exact Or.inr rfl | exact Or.inl ⟨rfl, Or.inl rfl⟩ | exact Or.inl ⟨rfl, Or.inr rfl⟩) (ef_split (ev_var (i := 3) rfl (by first | exact Or.inl rfl | exact Or.inr (Or.inl rfl) | exact Or.inr (Or.inr rfl))) ev_str).ev)
    (bv_cons (sv_if (tv_cmp (fun _ h => or_eq h) ok_eq (lv_ev (ev_op (fun _ _ => or_add) ok_add (lv_ev (ev_callB (fun _ h => cr_len h) ok_len (by rfl) T.b_len (by decide +kernel) (al_cons (lv_ev (ev_ix (lv_var (i := 2) rfl (by first | exact Or.inl rfl | exact Or.inr (Or.inl rfl) | exact Or.inr (Or.inr rfl))) (lv_ev ev_int))) al_nil))) (lv_ev (ev_callB (fun _ h => cr_len h) ok_len (by rfl) T.b_len (by decide +kernel) (al_cons (lv_ev (ev_ix (lv_var (i := 2) rfl (by first | exact Or.inl rfl | exact Or.inr (Or.inl rfl) | exact Or.inr (Or.inr rfl))) (lv_ev ev_int))) al_nil))))) (lv_ev ev_int) (nomark _))
    (bv_cons (sv_asg (i := 4) rfl (by first | exact Or.inr rfl | exact Or.inl ⟨rfl, Or.inl rfl⟩ | exact Or.inl ⟨rfl, Or.inr rfl⟩) (ef_lst ae_nil).ev)
    (bv_one (sv_if (tv_cmp (fun _ h => or_ne h) ok_ne (lv_var (i := 3) rfl (by first | exact Or.inl rfl | exact Or.inr (Or.inl rfl) | exact Or.inr (Or.inr rfl))) (lv_ev ev_str) (nomark _))
    (bv_one (sv_ret ev_bl))
    bv_nil)))
    bv_nil)
    (bv_cons (sv_if (tv_cmp (fun _ h => or_ne h) ok_ne (lv_ev (ev_callB (fun _ h => cr_len h) ok_len (by rfl) T.b_len (by decide +kernel) (al_cons (lv_var (i := 4) rfl (by first | exact Or.inl rfl | exact Or.inr (Or.inl rfl) | exact Or.inr (Or.inr rfl))) al_nil))) (lv_ev (ev_op (fun _ _ => or_add) ok_add (lv_ev (ev_callB (fun _ h => cr_len h) ok_len (by rfl) T.b_len (by decide +kernel) (al_cons (lv_ev (ev_ix (lv_var (i := 2) rfl (by first | exact Or.inl rfl | exact Or.inr (Or.inl rfl) | exact Or.inr (Or.inr rfl))) (lv_ev ev_int))) al_nil))) (lv_ev (ev_callB (fun _ h => cr_len h) ok_len (by rfl) T.b_len (by decide +kernel) (al_cons (lv_ev (ev_ix (lv_var (i := 2) rfl (by first | exact Or.inl rfl | exact Or.inr (Or.inl rfl) | exact Or.inr (Or.inr rfl))) (lv_ev ev_int))) al_nil))))) (nomark _))
    (bv_one (sv_ret ev_bl))
    bv_nil)
    (bv_cons (sv_asg (i := 5) rfl (by first | exact Or.inr rfl | exact Or.inl ⟨rfl, Or.inl rfl⟩ | exact Or.inl ⟨rfl, Or.inr rfl⟩) (ev_call (G_read_report.z (by decide)) (by rfl) (av_imm (ev_var (i := 3) rfl (by first | exact Or.inl rfl | exact Or.inr (Or.inl rfl) | exact Or.inr (Or.inr rfl))) av_nil)))
    (bv_cons (sv_if ((wv_or (tv_not (tv_tru (lv_ev (ev_callB (fun _ h => cr_isi h) ok_isi (by rfl) T.b_isinstance (by decide +kernel) (al_cons (lv_var (i := 5) rfl (by first | exact Or.inl rfl | exact Or.inr (Or.inl rfl) | exact Or.inr (Or.inr rfl))) (al_cons (lv_ev (ev_ty (by rfl) T.b_tuple (by decide +kernel))) al_nil)))))) (wv_or (tv_cmp (fun _ h => or_ne h) ok_ne (lv_ev (ev_callB (fun _ h => cr_len h) ok_len (by rfl) T.b_len (by decide +kernel) (al_cons (lv_var (i := 5) rfl (by first | exact Or.inl rfl | exact Or.inr (Or.inl rfl) | exact Or.inr (Or.inr rfl))) al_nil))) (lv_ev ev_int) (nomark _)) (wv_or (tv_not (tv_tru (lv_ev (ev_callB (fun _ h => cr_isi h) ok_isi (by rfl) T.b_isinstance (by decide +kernel) (al_cons (lv_ev (ev_ix (lv_var (i := 5) rfl (by first | exact Or.inl rfl | exact Or.inr (Or.inl rfl) | exact Or.inr (Or.inr rfl))) (lv_ev ev_int))) (al_cons (lv_ev (ev_ty (by rfl) T.b_list (by decide +kernel))) al_nil)))))) (wv_or1 (tv_not (tv_tru (lv_ev (ev_callB (fun _ h => cr_isi h) ok_isi (by rfl) T.b_isinstance (by decide +kernel) (al_cons (lv_ev (ev_ix (lv_var (i := 5) rfl (by first | exact Or.inl rfl | exact Or.inr (Or.inl rfl) | exact Or.inr (Or.inr rfl))) (lv_ev ev_int))) (al_cons (lv_ev (ev_ty (by rfl) T.b_list (by decide +kernel))) al_nil))))))))))).tv
    (bv_one (sv_ret ev_bl))
    bv_nil)
    (bv_cons (sv_for (iv_any (ef_op (fun _ _ => op_cat) ok_cat (lv_ev (ev_ix (lv_var (i := 5) rfl (by first | exact Or.inl rfl | exact Or.inr (Or.inl rfl) | exact Or.inr (Or.inr rfl))) (lv_ev ev_int))) (lv_ev (ev_ix (lv_var (i := 5) rfl (by first | exact Or.inl rfl | exact Or.inr (Or.inl rfl) | exact Or.inr (Or.inr rfl))) (lv_ev ev_int)))).ev) (gv_name (i := 6) rfl (by first | exact Or.inr rfl | exact Or.inl ⟨rfl, Or.inl rfl⟩ | exact Or.inl ⟨rfl, Or.inr rfl⟩))
    (bv_one (sv_if (tv_not (tv_tru (lv_ev (ev_call (G_law_is_row.z (by decide)) (by rfl) (av_bor (i := 6) rfl (by first | exact Or.inl rfl | exact Or.inr (Or.inl rfl) | exact Or.inr (Or.inr rfl)) av_nil)))))
    (bv_one (sv_ret ev_bl))
    bv_nil)))
    (bv_cons (sv_if ((wv_or (tv_cmp (fun _ h => or_ne h) ok_ne (lv_ev (ev_ix (lv_var (i := 5) rfl (by first | exact Or.inl rfl | exact Or.inr (Or.inl rfl) | exact Or.inr (Or.inr rfl))) (lv_ev ev_int))) (lv_ev (ev_ix (lv_var (i := 2) rfl (by first | exact Or.inl rfl | exact Or.inr (Or.inl rfl) | exact Or.inr (Or.inr rfl))) (lv_ev ev_int))) (nomark _)) (wv_or1 (tv_cmp (fun _ h => or_ne h) ok_ne (lv_ev (ev_ix (lv_var (i := 5) rfl (by first | exact Or.inl rfl | exact Or.inr (Or.inl rfl) | exact Or.inr (Or.inr rfl))) (lv_ev ev_int))) (lv_ev (ev_ix (lv_var (i := 2) rfl (by first | exact Or.inl rfl | exact Or.inr (Or.inl rfl) | exact Or.inr (Or.inr rfl))) (lv_ev ev_int))) (nomark _))))).tv
    (bv_one (sv_ret ev_bl))
    bv_nil)
    (bv_one (sv_ret (ev_cmp (fun _ h => or_eq h) ok_eq (lv_ev (ev_call (G_write_report.z (by decide)) (by rfl) (av_imm (ev_ix (lv_var (i := 5) rfl (by first | exact Or.inl rfl | exact Or.inr (Or.inl rfl) | exact Or.inr (Or.inr rfl))) (lv_ev ev_int)) (av_imm (ev_ix (lv_var (i := 5) rfl (by first | exact Or.inl rfl | exact Or.inr (Or.inl rfl) | exact Or.inr (Or.inr rfl))) (lv_ev ev_int)) av_nil)))) (lv_var (i := 3) rfl (by first | exact Or.inl rfl | exact Or.inr (Or.inl rfl) | exact Or.inr (Or.inr rfl))) (nomark _)))))))))))))))
theorem g_law {c : Pc} {f : Addr} {fd : FuncData} (T : Txt c) (F : Fun c.K "law" "law" s_law f fd) (hm : c.mg "law" = some (.ref f)) (G_law_digits : FnC c 2 "_law_digits" n_law_digits 3 m_law_digits) (G_law_told : FnC c 4 "_law_told" n_law_told 1 m_law_told) (G_write_report : FnC c 3 "write_report" n_write_report 2 m_write_report) (G_read_report : FnC c 8 "read_report" n_read_report 1 m_read_report) (G_law_is_row : FnC c 1 "_law_is_row" n_law_is_row 1 m_law_is_row) : FnC c 9 "law" n_law 1 m_law :=
  ⟨f, fd, ["script"], fn_ok F sc_law (b_law T G_law_digits G_law_told G_write_report G_read_report G_law_is_row), hm, F.kp, F.binds (ps := ["script"]) fun _ _ _ _ _ _ us hl => match us, hl with | [_], _ => rfl⟩
end Law
namespace Law
open PySem L2 Q
def IsBox (d : D) : Prop := ∃ (ds : List Int) (p : Nat), d = .lst [.lst (ds.map .int), .int p]
theorem draw_ok {b : D} {many : Int} (hb : IsBox b) (hm : 0 < many) : W m_law_draw [.io 0 b, .imm (.int many), .un] (RtIo 0 fun md d x => ∃ v : Nat, d = .int v ∧ (v : Int) < many ∧ IsBox x) := by
  obtain ⟨ds, p, rfl⟩ := hb
  unfold m_law_draw
  simp -implicitDefEqProofs
  by_cases h : p < ds.length
  · rw [if_pos h]
    simp -implicitDefEqProofs [List.getElem?_eq_getElem h, mod_int hm]
    have h1 : 0 ≤ ds[p] % many := Int.emod_nonneg _ (by omega)
    have h2 : ds[p] % many < many := Int.emod_lt_of_pos _ hm
    exact ⟨(ds[p] % many).toNat, by omega, by omega, ds, p + 1, rfl⟩
  · rw [if_neg h]
    exact ⟨0, rfl, hm, ds, p + 1, rfl⟩
/-- a draw in a def's body: the box is slot i -/
theorem draw_call {env : En} {i : Nat} {b : D} {a : ME} {many : Int} (hb : IsBox b) (hr : env[i]?.bind Sl.own? = some b) (ha : a env = some (.int many, env)) (hm : 0 < many) :
    ∃ (v : Nat) (x : D), (v : Int) < many ∧ IsBox x ∧ mCallV n_law_draw 2 m_law_draw (cIo i (cImm a cNil)) env = some (.int v, putS env i x) := by
  obtain ⟨md, d, x, ⟨v, rfl, h1, h2⟩, h3, _⟩ := call_io (N := n_law_draw) (np := 2) (mf := m_law_draw) (a := cIo i (cImm a cNil)) (env := env) (e1 := env) (as := [.io i, .imm (.int many)]) (ss := [.io 0 b, .imm (.int many)]) (i := i) (j := 0)
    (by simp -implicitDefEqProofs [hr, ha]) (by simp -implicitDefEqProofs [iosOf]) (by simp -implicitDefEqProofs [borsOf]) (by simp -implicitDefEqProofs [ioPlaces]) rfl (by simp -implicitDefEqProofs [hr]) (draw_ok hb hm)
  exact ⟨v, x, h1, h2, h3⟩
abbrev dI (ns : List Int) : List D := ns.map .int
theorem cell_ok (ns : List Int) (k : Nat) : W m_law_cell [.imm (.scr (dI ns)), .imm (.int k)] (Rt fun md d => ∃ c : Int, d = .int c) := by
  unfold m_law_cell
  simp -implicitDefEqProofs
  by_cases h : k < ns.length
  · simp -implicitDefEqProofs [h, List.getElem?_eq_getElem h]
  · simp -implicitDefEqProofs [h]
theorem pow1018 : dPow (.int 10) (.int 18) = some (.int 1000000000000000000) := by
  have h : CPow 10 18 := by unfold CPow; omega
  show (if CPow 10 18 then some (D.int (10 ^ (18 : Int).toNat)) else none) = _
  rw [if_pos h]; rfl
theorem digits_ok (ns : List Int) : W m_law_digits [.imm (.scr (dI ns)), .imm (.int 0), .imm (.int 63), .un, .un, .un, .un, .un] (Rt fun md d => ∃ ds : List Int, d = .lst (dI ds)) := by
  unfold m_law_digits
  simp -implicitDefEqProofs
  obtain ⟨P, hP⟩ := inv fun k e => ∃ (ds : List Int) (s t u v : Sl), e = [.imm (.scr (dI ns)), .imm (.int 0), .imm (.int 63), .own (.lst (dI ds)), s, t, u, v] ∧ ds.length ≤ 60 * k
  refine W_for (ds := rngD 0 63) (e0 := _) (iR2_ok (k := 0) (n := 63) rfl (by omega) (by omega)) P (by rw [hP]; exact ⟨[], .un, .un, .un, .un, rfl, by simp -implicitDefEqProofs⟩) ?_ ?_
  · intro k d e hd h
    rw [hP] at h
    obtain ⟨ds, s, t, u, v, rfl, hl⟩ := h
    simp -implicitDefEqProofs at hd
    obtain ⟨hk, rfl⟩ := hd
    obtain ⟨md, d, ⟨c, rfl⟩, c1, _⟩ := call_imm (N := n_law_cell) (np := 2) (mf := m_law_cell) (a := cImm (mVar 0) (cImm (mVar 4) cNil)) (env := [.imm (.scr (dI ns)), .imm (.int 0), .imm (.int 63), .own (.lst (dI ds)), .imm (.int k), t, u, v]) (e1 := [.imm (.scr (dI ns)), .imm (.int 0), .imm (.int 63), .own (.lst (dI ds)), .imm (.int k), t, u, v]) (as := [.imm (.scr (dI ns)), .imm (.int k)]) (ss := [.imm (.scr (dI ns)), .imm (.int k)]) rfl rfl rfl rfl (cell_ok ns k)
    have m1 : ∀ x, dMul (.int 2) (.int x) = some (.int (2 * x)) := fun x => mul_left (by decide) (by decide)
    have m2 : ∀ x, dMul (.int x) (.int 48271) = some (.int (x * 48271)) := fun x => mul_right (by decide) (by decide)
    have m3 : ∀ x, dMul (.int x) (.int 69621) = some (.int (x * 69621)) := fun x => mul_right (by decide) (by decide)
    have m4 : ∀ x, dMul (.int x) (.int 16807) = some (.int (x * 16807)) := fun x => mul_right (by decide) (by decide)
    have m5 : ∀ x, dMul (.int 7) (.int x) = some (.int (7 * x)) := fun x => mul_left (by decide) (by decide)
    have o1 : ∀ x, dMod (.int x) (.int 1000) = some (.int (x % 1000)) := fun x => mod_int (by decide)
    have o2 : ∀ x, dMod (.int x) (.int 2147483647) = some (.int (x % 2147483647)) := fun x => mod_int (by decide)
    have v1 : ∀ x, dDiv (.int x) (.int 1000) = some (.int (x / 1000)) := fun x => div_int (by decide) (by decide)
    have v2 : ∀ x, dDiv (.int x) (.int 997) = some (.int (x / 997)) := fun x => div_int (by decide) (by decide)
    obtain ⟨P2, hP2⟩ := inv fun j e => ∃ (ds : List Int) (c : Int) (u v : Sl), e = [.imm (.scr (dI ns)), .imm (.int 0), .imm (.int 63), .own (.lst (dI ds)), .imm (.int k), .imm (.int c), u, v] ∧ ds.length ≤ 60 * k + j
    have endc : ∀ e n, n ≤ 60 → P2 n e → P (k + 1) e := fun e n hn h => by
      rw [hP2] at h
      obtain ⟨ds, c, u, v, rfl, hl⟩ := h
      rw [hP]
      exact ⟨ds, _, _, _, _, rfl, by omega⟩
    have mid : ∀ c : Int, W (mIfS (mTest (mBin dGe (lVar 5) (lFix (mBin dPow (lFix (mC (.int 10))) (lFix (mC (.int 18)))))))
        (mForS (iR1 (aCons (mC (.int 60)) aNil)) (gN 6)
        (mIfS (mTest (mBin dGt (lVar 5) (lFix (mC (.int 0)))))
        (mSeq (mApp 3 (mBin dMod (lFix (mBi dInt (bCons (lVar 5) bNil))) (lFix (mC (.int 1000)))))
        (mAsg 5 (mBin dDiv (lVar 5) (lFix (mC (.int 1000))))))
        mNext))
        (mSeq (mAsg 7 (mBin dMod (lFix (mBi dInt (bCons (lFix (mBin dAdd (lFix (mBin dAdd (lFix (mBin dMul (lVar 5) (lFix (mC (.int 48271))))) (lFix (mBin dMul (lVar 4) (lFix (mC (.int 69621))))))) (lFix (mC (.int 11))))) bNil))) (lFix (mC (.int 2147483647)))))
        (mForS (iR1 (aCons (mC (.int 12)) aNil)) (gN 6)
        (mSeq (mAsg 7 (mBin dMod (lFix (mBi dInt (bCons (lFix (mBin dAdd (lFix (mBin dAdd (lFix (mBin dMul (lVar 7) (lFix (mC (.int 16807))))) (lFix (mBin dMul (lFix (mC (.int 7))) (lVar 6))))) (lFix (mC (.int 1))))) bNil))) (lFix (mC (.int 2147483647)))))
        (mApp 3 (mBin dMod (lFix (mBi dInt (bCons (lFix (mBin dDiv (lVar 7) (lFix (mC (.int 997))))) bNil))) (lFix (mC (.int 1000))))))))) [.imm (.scr (dI ns)), .imm (.int 0), .imm (.int 63), .own (.lst (dI ds)), .imm (.int k), .imm (.int c), u, v] (lp (P (k + 1)) (sqK (mRetO 3) (Rt fun md d => ∃ ds : List Int, d = .lst (dI ds)))) := fun c => by
      simp -implicitDefEqProofs [pow1018]
      by_cases hc : (1000000000000000000 : Int) ≤ c
      · rw [if_pos hc]
        refine W_for (ds := rngD 0 60) (e0 := _) (iR1_ok (n := 60) rfl (by omega)) P2 (by rw [hP2]; exact ⟨ds, c, u, v, rfl, by omega⟩) ?_ ?_
        · intro j d e hd h
          rw [hP2] at h
          obtain ⟨ds, c, u, v, rfl, hl2⟩ := h
          simp -implicitDefEqProofs at hd
          obtain ⟨hj, rfl⟩ := hd
          have e3 : ds.length < sizeLine := szL (by omega)
          by_cases hc : 0 < c
          · simp -implicitDefEqProofs [hc, e3, o1, v1]
            rw [hP2]
            exact ⟨ds ++ [c % 1000], c / 1000, _, v, by simp -implicitDefEqProofs; rfl, by simp -implicitDefEqProofs; omega⟩
          · simp -implicitDefEqProofs [hc]
            rw [hP2]
            exact ⟨ds, c, _, v, rfl, by omega⟩
        · intro e h
          exact endc e 60 (by omega) (by simpa using h)
      · rw [if_neg hc]
        simp -implicitDefEqProofs [m2, m3, o2]
        obtain ⟨P3, hP3⟩ := inv fun j e => ∃ (ds : List Int) (u : Sl) (w : Int), e = [.imm (.scr (dI ns)), .imm (.int 0), .imm (.int 63), .own (.lst (dI ds)), .imm (.int k), .imm (.int c), u, .imm (.int w)] ∧ ds.length ≤ 60 * k + j
        refine W_for (ds := rngD 0 12) (e0 := _) (iR1_ok (n := 12) rfl (by omega)) P3 (by rw [hP3]; exact ⟨ds, u, _, rfl, by omega⟩) ?_ ?_
        · intro j d e hd h
          rw [hP3] at h
          obtain ⟨ds, u, w, rfl, hl2⟩ := h
          simp -implicitDefEqProofs at hd
          obtain ⟨hj, rfl⟩ := hd
          have e3 : ds.length < sizeLine := szL (by omega)
          simp -implicitDefEqProofs [e3, m4, m5, o1, o2, v2]
          rw [hP3]
          exact ⟨ds ++ [_], _, _, by simp -implicitDefEqProofs; exact ⟨rfl, rfl, rfl⟩, by simp -implicitDefEqProofs; omega⟩
        · intro e h
          rw [hP3] at h
          obtain ⟨ds, u, w, rfl, hl2⟩ := h
          simp -implicitDefEqProofs at hl2
          show P (k + 1) _
          rw [hP]
          exact ⟨ds, _, _, _, _, rfl, by omega⟩
    refine ⟨[.imm (.scr (dI ns)), .imm (.int 0), .imm (.int 63), .own (.lst (dI ds)), .imm (.int k), t, u, v], by simp -implicitDefEqProofs, ?_⟩
    rw [W_seq, W_asg, c1, Gt_some]
    refine ⟨by simp -implicitDefEqProofs, ?_⟩
    show W (mSeq _ _) [.imm (.scr (dI ns)), .imm (.int 0), .imm (.int 63), .own (.lst (dI ds)), .imm (.int k), .imm (.int c), u, v] _
    rw [W_seq, W_if]
    have ht : mTest (mBin dLt (lVar 5) (lFix (mC (.int 0)))) [.imm (.scr (dI ns)), .imm (.int 0), .imm (.int 63), .own (.lst (dI ds)), .imm (.int k), .imm (.int c), u, v] = some (decide (c < 0), [.imm (.scr (dI ns)), .imm (.int 0), .imm (.int 63), .own (.lst (dI ds)), .imm (.int k), .imm (.int c), u, v]) := by simp -implicitDefEqProofs
    rw [ht, Gt_some]
    by_cases hc : c < 0
    · rw [if_pos (by simpa using hc), W_asg]
      have ha : mBin dSub (lFix (mC (.int 1))) (lFix (mBin dMul (lFix (mC (.int 2))) (lVar 5))) [.imm (.scr (dI ns)), .imm (.int 0), .imm (.int 63), .own (.lst (dI ds)), .imm (.int k), .imm (.int c), u, v] = some (.int (1 - 2 * c), [.imm (.scr (dI ns)), .imm (.int 0), .imm (.int 63), .own (.lst (dI ds)), .imm (.int k), .imm (.int c), u, v]) := by simp -implicitDefEqProofs [m1]
      rw [ha, Gt_some]
      exact ⟨by simp -implicitDefEqProofs, mid _⟩
    · rw [if_neg (by simpa using hc), W_next]
      exact mid _
  · intro e h
    rw [hP] at h
    obtain ⟨ds, s, t, u, v, rfl, hl⟩ := h
    simp -implicitDefEqProofs
    exact ⟨ds, rfl⟩
end Law
namespace Q
open PySem L2 Builtin.Str
/-! ## Texts as lists of signs: split, replace, count for one sign -/
abbrev tx (l : List Nat) : Str := ⟨l.toArray⟩
abbrev cs (z : Str) : List Nat := z.cps.toList
@[simp] theorem cs_tx (l : List Nat) : (tx l).cps.toList = l := by simp [tx]
@[simp] theorem tx_cs (z : Str) : tx z.cps.toList = z := by cases z; simp [tx]
@[simp] theorem len_tx (l : List Nat) : (tx l).length = l.length := by simp [tx, Str.length]
theorem tx_app (a b : List Nat) : tx a ++ tx b = tx (a ++ b) := by
  show (⟨a.toArray ++ b.toArray⟩ : Str) = _
  simp [tx]
theorem tx_inj {a b : List Nat} : tx a = tx b ↔ a = b := by
  constructor
  · intro h
    have : (tx a).cps.toList = (tx b).cps.toList := by rw [h]
    simpa using this
  · rintro rfl; rfl
/-- where c stands -/
def posL (c : Nat) : List Nat → Nat → List Nat
  | [], _ => []
  | a :: r, k => if a = c then k :: posL c r (k + 1) else posL c r (k + 1)
theorem occ_run (x : Str) (c lim : Nat) : ∀ (l : List Nat) (k free : Nat) (acc : Array Nat), x.cps.toList.drop k = l → k ≤ x.length → free ≤ k → acc.size ≤ k → x.length < lim →
    (forIn (List.range' k (x.length + 1 - k)) (acc, free) (StrLaws.occBody x ⟨#[c]⟩ x.length lim)).run.fst.toList = acc.toList ++ posL c l k := by
  intro l
  induction l with
  | nil =>
    intro k free acc hd hk hf ha hl
    have hlen : x.cps.toList.length = x.length := len_cps x
    have : k = x.length := by
      have := congrArg List.length hd
      simp only [List.length_drop, List.length_nil] at this
      omega
    subst this
    rw [Nat.add_sub_cancel_left]
    show (forIn [x.length] (acc, free) (StrLaws.occBody x ⟨#[c]⟩ x.length lim)).run.fst.toList = _
    rw [List.forIn_cons]
    unfold StrLaws.occBody
    rw [if_neg (by
      rintro ⟨⟨_, h1⟩, _⟩
      have : (⟨#[c]⟩ : Str).length = 1 := rfl
      omega)]
    simp [posL]
  | cons a r ih =>
    intro k free acc hd hk hf ha hl
    have hlen : x.cps.toList.length = x.length := len_cps x
    have hk2 : k < x.length := by
      have := congrArg List.length hd
      simp only [List.length_drop, List.length_cons] at this
      omega
    have hd2 : x.cps.toList.drop (k + 1) = r := by rw [← List.drop_drop, hd]; rfl
    have hat : x.cps.toList[k]? = some a := by
      have : (x.cps.toList.drop k)[0]? = some a := by rw [hd]; rfl
      rw [List.getElem?_drop] at this
      simpa using this
    have hs := StrLaws.subAt_one x c k
    rw [hat] at hs
    have e : x.length + 1 - k = (x.length + 1 - (k + 1)) + 1 := by omega
    rw [e, List.range'_succ, List.forIn_cons]
    have hb : StrLaws.occBody x ⟨#[c]⟩ x.length lim k (acc, free) = if a = c then pure (ForInStep.yield (acc.push k, k + 1)) else pure (ForInStep.yield (acc, free)) := by
      unfold StrLaws.occBody
      by_cases hac : a = c
      · have h := hs.mpr (by rw [hac])
        rw [if_pos ⟨⟨⟨by show acc.size < lim; omega, hf⟩, h.1⟩, h.2⟩, if_pos hac]
        rfl
      · have h : ¬ (k + (⟨#[c]⟩ : Str).length ≤ x.length ∧ subAt x ⟨#[c]⟩ k = true) := fun z => hac (Option.some.inj (hs.mp z))
        rw [if_neg (fun z => h ⟨z.1.2, z.2⟩), if_neg hac]
    rw [hb]
    by_cases hac : a = c
    · rw [if_pos hac]
      show (forIn (List.range' (k + 1) (x.length + 1 - (k + 1))) (acc.push k, k + 1) (StrLaws.occBody x ⟨#[c]⟩ x.length lim)).run.fst.toList = _
      rw [ih (k + 1) (k + 1) (acc.push k) hd2 (by omega) (by omega) (by simp; omega) hl]
      simp [posL, hac]
    · rw [if_neg hac]
      show (forIn (List.range' (k + 1) (x.length + 1 - (k + 1))) (acc, free) (StrLaws.occBody x ⟨#[c]⟩ x.length lim)).run.fst.toList = _
      rw [ih (k + 1) free acc hd2 (by omega) (by omega) (by omega) hl]
      simp [posL, hac]
theorem occ_pos (x : Str) (c : Nat) : occurrences x ⟨#[c]⟩ 0 x.length (x.length + 1) = posL c x.cps.toList 0 := by
  rw [StrLaws.occ_eq]
  have := occ_run x c (x.length + 1) x.cps.toList 0 0 #[] rfl (Nat.zero_le _) (Nat.le_refl _) (by simp) (by omega)
  simpa using this
/-- the parts between the c's -/
def splitL (c : Nat) : List Nat → List (List Nat)
  | [] => [[]]
  | a :: r => if a = c then [] :: splitL c r else match splitL c r with
    | h :: t => (a :: h) :: t
    | [] => [[a]]
def headApp (p : List Nat) : List (List Nat) → List (List Nat)
  | h :: t => (p ++ h) :: t
  | [] => [p]
theorem splitL_ne (c : Nat) : ∀ l, splitL c l ≠ []
  | [] => by simp [splitL]
  | a :: r => by
    unfold splitL
    split
    · simp
    · split <;> simp
theorem headApp_nil {L : List (List Nat)} (h : L ≠ []) : headApp [] L = L := by cases L with
  | nil => exact absurd rfl h
  | cons a r => simp [headApp]
theorem headApp_app (p q : List Nat) {L : List (List Nat)} (h : L ≠ []) : headApp (p ++ q) L = headApp p (headApp q L) := by cases L with
  | nil => exact absurd rfl h
  | cons a r => simp [headApp]
theorem strSub_cs (x : Str) (a b : Nat) : (strSub x a b).cps.toList = (x.cps.toList.take b).drop a := by
  unfold strSub
  simp [Array.toList_extract, List.extract_eq_drop_take, List.drop_take]
theorem parts_run (x : Str) (c : Nat) : ∀ (l : List Nat) (a k : Nat), x.cps.toList.drop k = l → a ≤ k → k ≤ x.length →
    (StrLaws.partsFrom x 1 a (posL c l k)).map (fun z => z.cps.toList) = headApp ((x.cps.toList.take k).drop a) (splitL c l) := by
  intro l
  induction l with
  | nil =>
    intro a k hd ha hk
    have hlen : x.cps.toList.length = x.length := len_cps x
    have : k = x.length := by
      have := congrArg List.length hd
      simp only [List.length_drop, List.length_nil] at this
      omega
    subst this
    simp only [posL, StrLaws.partsFrom, List.map_cons, List.map_nil, splitL, headApp, strSub_cs, List.append_nil]
  | cons b r ih =>
    intro a k hd ha hk
    have hlen : x.cps.toList.length = x.length := len_cps x
    have hk2 : k < x.length := by
      have := congrArg List.length hd
      simp only [List.length_drop, List.length_cons] at this
      omega
    have hd2 : x.cps.toList.drop (k + 1) = r := by rw [← List.drop_drop, hd]; rfl
    have hat : x.cps.toList[k]? = some b := by
      have : (x.cps.toList.drop k)[0]? = some b := by rw [hd]; rfl
      rw [List.getElem?_drop] at this
      simpa using this
    have htk : x.cps.toList.take (k + 1) = x.cps.toList.take k ++ [b] := by rw [List.take_add_one, hat]; rfl
    by_cases hbc : b = c
    · have h1 := ih (k + 1) (k + 1) hd2 (Nat.le_refl _) (by omega)
      have h2 : (x.cps.toList.take (k + 1)).drop (k + 1) = [] := by rw [List.drop_eq_nil_iff]; simp; omega
      rw [h2, headApp_nil (splitL_ne c r)] at h1
      simp only [posL, hbc, if_true, StrLaws.partsFrom, List.map_cons, splitL, headApp, List.append_nil, strSub_cs]
      rw [h1]
    · have h1 := ih a (k + 1) hd2 (by omega) (by omega)
      have h2 : (x.cps.toList.take (k + 1)).drop a = (x.cps.toList.take k).drop a ++ [b] := by
        rw [htk, List.drop_append_of_le_length (by rw [List.length_take]; omega)]
      simp only [posL, hbc, if_false]
      rw [h1, h2, headApp_app _ _ (splitL_ne c r)]
      congr 1
      simp only [splitL, hbc, if_false]
      cases hs : splitL c r with
      | nil => exact absurd hs (splitL_ne c r)
      | cons h t => rfl
theorem map_tx {L : List Str} {M : List (List Nat)} (h : L.map (fun z => z.cps.toList) = M) : L = M.map tx := by
  subst h
  rw [List.map_map]
  have : ((fun l => tx l) ∘ fun z : Str => z.cps.toList) = id := by funext z; simp
  show L = L.map ((fun l => tx l) ∘ fun z : Str => z.cps.toList)
  rw [this]; simp
theorem partsBetween_pos (x : Str) (c : Nat) : partsBetween x (posL c x.cps.toList 0) 1 = (splitL c x.cps.toList).map tx := by
  rw [StrLaws.partsBetween_eq]
  refine map_tx ?_
  have := parts_run x c x.cps.toList 0 0 rfl (Nat.le_refl _) (Nat.zero_le _)
  simp only [List.take_zero, List.drop_nil] at this
  rw [this, headApp_nil (splitL_ne c _)]
theorem pos_nil {c : Nat} : ∀ {l : List Nat} {k : Nat}, posL c l k = [] → splitL c l = [l] ∧ l.filter (fun a => decide (a ≠ c)) = l
  | [], _, _ => ⟨rfl, rfl⟩
  | a :: r, k, h => by
    unfold posL at h
    split at h
    · cases h
    · rename_i hac
      obtain ⟨h1, h2⟩ := pos_nil h
      refine ⟨?_, ?_⟩
      · unfold splitL
        rw [if_neg hac, h1]
      · rw [List.filter_cons, if_pos (by simpa using hac), h2]
theorem split_tx (x : Str) {c : Nat} (hc : c < 256) : Txt.split x ⟨#[c]⟩ = (splitL c x.cps.toList).map tx := by
  unfold Txt.split
  rw [occ_pos]
  have l1 : (⟨#[c]⟩ : Str).length = 1 := rfl
  have k1 : Builtin.Str.strKind ⟨#[c]⟩ = 1 := by unfold Builtin.Str.strKind; simp [hc]
  have k2 : 1 ≤ Builtin.Str.strKind x := by unfold Builtin.Str.strKind; split <;> (try split) <;> omega
  have k3 : decide (Builtin.Str.strKind x < Builtin.Str.strKind ⟨#[c]⟩) = false := by rw [k1]; simp; omega
  rw [k3, Bool.or_false]
  by_cases h0 : x.length < 1
  · have hx : x.cps.toList = [] := List.eq_nil_of_length_eq_zero (by rw [len_cps]; omega)
    rw [if_pos (by rw [l1]; simpa using h0), hx]
    show [x] = [tx []]
    rw [← hx, tx_cs]
  · rw [if_neg (by rw [l1]; simpa using h0)]
    split
    · rename_i he
      have := (pos_nil (List.isEmpty_iff.mp he)).1
      rw [this]
      simp
    · exact partsBetween_pos x c
theorem join_flat : ∀ L : List (List Nat), Str.join "" (L.map tx) = tx L.flatten
  | [] => rfl
  | [a] => by show tx a = tx ([a].flatten); simp
  | a :: b :: r => by
    have h := join_flat (b :: r)
    show tx a ++ "" ++ Str.join "" ((b :: r).map tx) = _
    rw [h]
    have e : ("" : Str) = tx [] := rfl
    rw [e, tx_app, tx_app]
    simp
theorem split_flat (c : Nat) : ∀ l, (splitL c l).flatten = l.filter (fun a => decide (a ≠ c))
  | [] => rfl
  | a :: r => by
    have ih := split_flat c r
    unfold splitL
    by_cases h : a = c
    · rw [if_pos h, List.filter_cons, if_neg (by simpa using h)]
      simpa using ih
    · rw [if_neg h, List.filter_cons, if_pos (by simpa using h)]
      cases hs : splitL c r with
      | nil => exact absurd hs (splitL_ne c r)
      | cons p q => rw [hs] at ih; simp only [List.flatten_cons] at ih ⊢; rw [← ih]; rfl
theorem replace_tx (x : Str) (c : Nat) : Txt.replace x ⟨#[c]⟩ ⟨#[]⟩ = tx (x.cps.toList.filter fun a => decide (a ≠ c)) := by
  unfold Txt.replace
  rw [occ_pos]
  split
  · rename_i he
    have he : posL c x.cps.toList 0 = [] := by simpa using he
    rw [(pos_nil he).2, tx_cs]
  · have e : (⟨#[c]⟩ : Str).length = 1 := rfl
    rw [e, partsBetween_pos, StrLaws.glued_eq_join]
    have : Str.join (⟨#[]⟩ : Str) ((splitL c x.cps.toList).map tx) = Str.join "" ((splitL c x.cps.toList).map tx) := rfl
    rw [this, join_flat, split_flat]
theorem pos_len (c : Nat) : ∀ (l : List Nat) (k : Nat), (posL c l k).length = l.count c
  | [], _ => rfl
  | a :: r, k => by
    unfold posL
    rw [List.count_cons]
    by_cases h : a = c
    · rw [if_pos h]; simp [pos_len c r (k + 1), h]
    · rw [if_neg h]; simp [pos_len c r (k + 1), h]
theorem count_tx (x : Str) (c : Nat) : Txt.count x ⟨#[c]⟩ = ((x.cps.toList.count c : Nat) : Int) := by
  unfold Txt.count
  rw [occ_pos, pos_len]
/-- joined over "\n" -/
def joinC (c : Nat) : List (List Nat) → List Nat
  | [] => []
  | [a] => a
  | a :: b :: r => a ++ c :: joinC c (b :: r)
theorem split_ne {c x : Nat} (hx : ¬ x = c) {r h : List Nat} {t : List (List Nat)} (e : splitL c r = h :: t) : splitL c (x :: r) = (x :: h) :: t := by
  rw [splitL, if_neg hx, e]
theorem split_app (c : Nat) (a : List Nat) (ha : c ∉ a) (l : List Nat) : splitL c (a ++ c :: l) = a :: splitL c l := by
  induction a with
  | nil => simp [splitL]
  | cons x a ih =>
    have hx : ¬ x = c := fun e => ha (by simp [e])
    exact split_ne hx (ih fun h => ha (List.mem_cons_of_mem _ h))
theorem split_one (c : Nat) (a : List Nat) (ha : c ∉ a) : splitL c a = [a] := by
  induction a with
  | nil => rfl
  | cons x a ih =>
    have hx : ¬ x = c := fun e => ha (by simp [e])
    exact split_ne hx (ih fun h => ha (List.mem_cons_of_mem _ h))
theorem split_join (c : Nat) : ∀ L : List (List Nat), L ≠ [] → (∀ a ∈ L, c ∉ a) → splitL c (joinC c L) = L
  | [], h, _ => absurd rfl h
  | [a], _, h => split_one c a (h a (by simp))
  | a :: b :: r, _, h => by
    show splitL c (a ++ c :: joinC c (b :: r)) = _
    rw [split_app c a (h a (by simp)), split_join c (b :: r) (by simp) fun x hx => h x (List.mem_cons_of_mem _ hx)]
theorem join_tx {c : Nat} : ∀ L : List (List Nat), Txt.join ⟨#[c]⟩ (L.map tx) = tx (joinC c L) := by
  have key : ∀ L : List (List Nat), Str.join ⟨#[c]⟩ (L.map tx) = tx (joinC c L) := by
    intro L
    induction L with
    | nil => rfl
    | cons a L ih =>
      cases L with
      | nil => rfl
      | cons b r =>
        show tx a ++ tx [c] ++ Str.join ⟨#[c]⟩ ((b :: r).map tx) = _
        rw [ih, tx_app, tx_app]
        show tx (a ++ [c] ++ joinC c (b :: r)) = tx (a ++ c :: joinC c (b :: r))
        simp
  intro L
  rw [← key]
  exact StrLaws.glued_eq_join _ _
end Q
namespace Law
open PySem L2 Q
/-! ## Figures -/
def fg (n : Nat) : List Nat := (Nat.toDigits 10 n).map Char.toNat
theorem fg_text (n : Nat) : Str.ofString (toString (n : Int)) = tx (fg n) := by
  rw [← tx_cs (Str.ofString (toString (n : Int)))]
  congr 1
  exact PySem.W.KIN.signs_num n
theorem fg_dig {n c : Nat} (h : c ∈ fg n) : 48 ≤ c ∧ c ≤ 57 := by
  unfold fg at h
  obtain ⟨ch, hch, e⟩ := List.mem_map.mp h
  have r := PyProof.Rows.digit_range (Nat.isDigit_of_mem_toDigits (by decide) (by decide) hch)
  rw [← e]; exact r
theorem dig_ne : ∀ d : Nat, d < 10 → d ≠ 0 → (Nat.digitChar d).toNat ≠ 48 := by decide
theorem fg_head (n : Nat) : ∃ c r, fg n = c :: r ∧ (n ≠ 0 → c ≠ 48) ∧ (n < 10 → r = []) := by
  induction n using Nat.strongRecOn with
  | _ n ih =>
    by_cases h : n < 10
    · refine ⟨(Nat.digitChar n).toNat, [], ?_, fun hn => dig_ne n h hn, fun _ => rfl⟩
      unfold fg; rw [Nat.toDigits_of_lt_base h]; rfl
    · have hm : n % 10 < 10 := Nat.mod_lt n (by decide)
      have t : Nat.toDigits 10 (n / 10) ++ Nat.toDigits 10 (n % 10) = Nat.toDigits 10 (10 * (n / 10) + n % 10) := Nat.toDigits_append_toDigits (by decide) (by omega) hm
      rw [Nat.div_add_mod] at t
      obtain ⟨c, r, h1, h2, _⟩ := ih (n / 10) (by omega)
      refine ⟨c, r ++ (Nat.toDigits 10 (n % 10)).map Char.toNat, ?_, fun _ => h2 (by omega), fun z => by omega⟩
      unfold fg at h1 ⊢
      rw [← t, List.map_append, h1]; rfl
theorem fg_len {n : Nat} (h : n < 1000000) : 1 ≤ (fg n).length ∧ (fg n).length ≤ 6 := by
  obtain ⟨c, r, h1, _⟩ := fg_head n
  refine ⟨by rw [h1]; simp, ?_⟩
  unfold fg
  rw [List.length_map]
  exact PyProof.Rows.digits10_le (k := 6) (by decide) (by omega)
theorem fg_int {n : Nat} (h : n < 1000000) : PySem.intText? (tx (fg n)) = some (n : Int) := by
  rw [← fg_text]
  exact PySem.W.KIN.num_reads (by omega) (by omega)
theorem in_fig (neg : Bool) (c : Nat) : dIn neg (.str (tx [c])) (.str "0123456789") = some (.bl (if neg then !decide (48 ≤ c ∧ c ≤ 57) else decide (48 ≤ c ∧ c ≤ 57))) := by
  have e : ("0123456789" : Str) = tx [48, 49, 50, 51, 52, 53, 54, 55, 56, 57] := rfl
  have := in_sign neg c (tx [48, 49, 50, 51, 52, 53, 54, 55, 56, 57])
  rw [cs_tx] at this
  have h2 : decide (c ∈ [48, 49, 50, 51, 52, 53, 54, 55, 56, 57]) = decide (48 ≤ c ∧ c ≤ 57) := by
    rw [decide_eq_decide]
    simp
    omega
  rw [h2] at this
  rw [e, this]
/-- any sign that is no figure -/
theorem any_fig (l : List Nat) : mGx true [1] (iAny (mVar 0)) (gN 1) mYes (mBin (dIn true) (lVar 1) (lFix (mC (.str "0123456789")))) [.imm (.str (tx l)), .un] = some (.bl (l.any fun c => !decide (48 ≤ c ∧ c ≤ 57)), [.imm (.str (tx l)), .un]) := by
  have hs : signs (tx l) = l.map fun c => .str (tx [c]) := by unfold signs; rw [cs_tx]
  have inf := in_fig true
  obtain ⟨SF, hSF⟩ : ∃ S : Str, ("0123456789" : Str) = S := ⟨_, rfl⟩
  rw [hSF] at inf ⊢
  obtain ⟨e2, h1, ⟨t, rfl⟩⟩ := gx_ok (stop := true) (vs := [1]) (mi := iAny (mVar 0)) (gf := gN 1) (mt := mYes) (me := mBin (dIn true) (lVar 1) (lFix (mC (.str SF)))) (env := [.imm (.str (tx l)), .un]) (e0 := [.imm (.str (tx l)), .un]) (ds := signs (tx l)) (by simp -implicitDefEqProofs) rfl
    (fun i => (l[i]?.map fun c => !decide (48 ≤ c ∧ c ≤ 57)).getD false) (fun e => ∃ t, e = [.imm (.str (tx l)), t]) ⟨_, rfl⟩ (by
      rintro i d e hd ⟨t, rfl⟩
      rw [hs, List.getElem?_map] at hd
      obtain ⟨c, hc, rfl⟩ := Option.map_eq_some_iff.mp hd
      refine ⟨[.imm (.str (tx l)), .imm (.str (tx [c]))], true, [.imm (.str (tx l)), .imm (.str (tx [c]))], by simp -implicitDefEqProofs [wipeE], rfl, fun _ => ⟨[.imm (.str (tx l)), .imm (.str (tx [c]))], ?_, ⟨_, rfl⟩⟩, fun z => by cases z⟩
      rw [hc]
      simp -implicitDefEqProofs only [ap_Bin, ap_lVar, ap_lFix, ap_C, List.getElem?_cons_succ, List.getElem?_cons_zero, Option.bind_some, Option.map_some, rd_imm, get_slot, get_fix, inf c, if_true, Option.getD_some])
  have hbk : backE [.imm (.str (tx l)), .un] (wipeE [.imm (.str (tx l)), t] [1]) [1] = [.imm (.str (tx l)), .un] := by simp -implicitDefEqProofs [backE, wipeE]
  rw [h1, hbk, hs, List.length_map]
  congr 2
  have : (∃ i, i < l.length ∧ (l[i]?.map fun c => !decide (48 ≤ c ∧ c ≤ 57)).getD false = true) ↔ l.any (fun c => !decide (48 ≤ c ∧ c ≤ 57)) = true := by
    rw [List.any_eq_true]
    constructor
    · rintro ⟨i, hi, h⟩
      rw [List.getElem?_eq_getElem hi] at h
      exact ⟨l[i], List.getElem_mem hi, by simpa using h⟩
    · rintro ⟨c, hc, h⟩
      obtain ⟨i, hi, e⟩ := List.getElem_of_mem hc
      exact ⟨i, hi, by rw [List.getElem?_eq_getElem hi, e]; simpa using h⟩
  by_cases h : l.any (fun c => !decide (48 ≤ c ∧ c ≤ 57)) = true
  · rw [if_pos (this.mpr h), h]
  · rw [if_neg (fun z => h (this.mp z))]
    cases hb : l.any (fun c => !decide (48 ≤ c ∧ c ≤ 57)) with
    | true => exact absurd hb h
    | false => rfl
theorem rn_num {n : Nat} (h : n < 1000000) : res n_read_number m_read_number [.imm (.str (tx (fg n)))] [] = some (.int (n : Nat), []) := by
  refine res_eq ?_
  unfold m_read_number
  obtain ⟨h1, h2⟩ := fg_len h
  have hi := fg_int h
  obtain ⟨c, r, hf, hc0, hr⟩ := fg_head n
  have hd : ∀ x ∈ fg n, 48 ≤ x ∧ x ≤ 57 := fun x hx => fg_dig hx
  have ha := any_fig (fg n)
  have hany : (fg n).any (fun c => !decide (48 ≤ c ∧ c ≤ 57)) = false := by
    rw [List.any_eq_false]
    intro x hx
    have := hd x hx
    simp [this]
  rw [hany] at ha
  have ix0 : dIx (.str (tx (fg n))) (.int 0) = some (.str (tx [c])) := by
    have hlt : 0 < (tx (fg n)).cps.toList.length := by rw [cs_tx]; omega
    have := ix_str_at (z := tx (fg n)) (n := 0) (szS (by rw [len_tx]; omega)) hlt
    have e : (tx (fg n)).cps.toList[0] = c := by
      have h3 : (tx (fg n)).cps.toList[0]? = some c := by rw [cs_tx, hf]; rfl
      rw [List.getElem?_eq_getElem hlt] at h3
      exact Option.some.inj h3
    rw [e] at this
    exact this
  have e0 : ("0" : Str) = tx [48] := rfl
  have dc : decide (tx [c] = tx [48]) = decide (c = 48) := by
    by_cases h : c = 48
    · rw [h, decT rfl, decT rfl]
    · rw [decF h, decF (fun z => h (by have := tx_inj.mp z; simpa using this))]
  have zl : (fg n).length ≤ sizeLine := szS (by omega)
  have zs : (fg n).length ≤ 640 := by omega
  have T1 : mNot (mTest (mChain dLe dLe (lFix (mC (.int 1))) (lFix (mBi dLen (bCons (lVar 0) bNil))) (lFix (mC (.int 6))))) [.imm (.str (tx (fg n))), .un] = some (false, [.imm (.str (tx (fg n))), .un]) := by
    have c1 : (1 : Int) ≤ ((fg n).length : Nat) := by omega
    have c2 : (((fg n).length : Nat) : Int) ≤ 6 := by omega
    simp -implicitDefEqProofs [zl, c1, c2]
  have T2 : mTru (lFix (mGx true [1] (iAny (mVar 0)) (gN 1) mYes (mBin (dIn true) (lVar 1) (lFix (mC (.str "0123456789")))))) [.imm (.str (tx (fg n))), .un] = some (false, [.imm (.str (tx (fg n))), .un]) := by
    simp -implicitDefEqProofs only [ap_Tru, ap_lFix, ha, Option.map_some, Option.bind_some, get_fix, tru_bl]
  have T3 : mAnd (mTest (mBin (dEqv false) (lFix (mBin dIx (lVar 0) (lFix (mC (.int 0))))) (lFix (mC (.str "0"))))) (mTest (mBin dGt (lFix (mBi dLen (bCons (lVar 0) bNil))) (lFix (mC (.int 1))))) [.imm (.str (tx (fg n))), .un] = some (false, [.imm (.str (tx (fg n))), .un]) := by
    rw [e0]
    by_cases hc : c = 48
    · have hn : n = 0 := Classical.byContradiction fun z => hc0 z hc
      have hl1 : (fg n).length = 1 := by rw [hf, hr (by omega)]; rfl
      have c2 : ¬ (1 : Int) < (((fg n).length : Nat) : Int) := by omega
      simp -implicitDefEqProofs only [ap_And, ap_Test, ap_Bin, ap_Bi, ap_bCons, ap_bNil, lsGet_cons, lsGet_nil, ap_lVar, ap_lFix, ap_C, List.getElem?_cons_zero, Option.bind_some, Option.map_some, rd_imm, get_slot, get_fix, ix0, eqv_str, dc, hc, decide_true, Bool.false_eq_true, if_false, if_true, len_str, len_tx, zl, cmp_int, c2, decide_false]
    · simp -implicitDefEqProofs only [ap_And, ap_Test, ap_Bin, ap_lVar, ap_lFix, ap_C, List.getElem?_cons_zero, Option.bind_some, Option.map_some, rd_imm, get_slot, get_fix, ix0, eqv_str, dc, hc, decide_false, Bool.false_eq_true, if_false]
  show W _ [.imm (.str (tx (fg n))), .un] _
  rw [W_seq, W_if, T1, Gt_some, if_neg (by simp), W_next, sqK_nx, W_seq, W_if, T2, Gt_some, if_neg (by simp), W_next, sqK_nx, W_seq, W_if, T3, Gt_some, if_neg (by simp), W_next, sqK_nx, W_ret]
  simp -implicitDefEqProofs [hi, zs]
theorem rn_depot : res n_read_number m_read_number [.imm (.str "depot")] [] = some (.non, []) := by
  refine res_eq ?_
  unfold m_read_number
  have ed : ("depot" : Str) = tx [100, 101, 112, 111, 116] := rfl
  rw [ed]
  have ha := any_fig [100, 101, 112, 111, 116]
  have hany : [100, 101, 112, 111, 116].any (fun c => !decide (48 ≤ c ∧ c ≤ 57)) = true := by decide
  rw [hany] at ha
  have T1 : mNot (mTest (mChain dLe dLe (lFix (mC (.int 1))) (lFix (mBi dLen (bCons (lVar 0) bNil))) (lFix (mC (.int 6))))) [.imm (.str (tx [100, 101, 112, 111, 116])), .un] = some (false, [.imm (.str (tx [100, 101, 112, 111, 116])), .un]) := by
    have zl : 5 ≤ sizeLine := szS (by omega)
    simp -implicitDefEqProofs [zl]
  have T2 : mTru (lFix (mGx true [1] (iAny (mVar 0)) (gN 1) mYes (mBin (dIn true) (lVar 1) (lFix (mC (.str "0123456789")))))) [.imm (.str (tx [100, 101, 112, 111, 116])), .un] = some (true, [.imm (.str (tx [100, 101, 112, 111, 116])), .un]) := by
    simp -implicitDefEqProofs only [ap_Tru, ap_lFix, ha, Option.map_some, Option.bind_some, get_fix, tru_bl]
  show W _ [.imm (.str (tx [100, 101, 112, 111, 116])), .un] _
  rw [W_seq, W_if, T1, Gt_some, if_neg (by simp), W_next, sqK_nx, W_seq, W_if, T2, Gt_some, if_pos rfl, W_ret, ap_C, Gt_some, sqK_ret, RtA_ret, ioAt_nil, Gt_some]
  exact ⟨rfl, rfl⟩
end Law
namespace Law
open PySem L2 Q
/-! ## Places -/
abbrev pD (p : Nat × Nat) : D := .tup [.int (p.1 : Nat), .int (p.2 : Nat)]
def placeD : Option (Nat × Nat) → D
  | none => .non
  | some p => pD p
abbrev dep : List Nat := [100, 101, 112, 111, 116]
def plW : Option (Nat × Nat) → List Nat
  | none => dep
  | some p => fg p.1 ++ 58 :: fg p.2
/-- a place of the floor -/
def Pok (p : Nat × Nat) : Prop := p.1 < 16 ∧ p.2 < 16
theorem log6 {n : Nat} (h : n < 1000000) : ((n : Int).natAbs).log2 < 1920 := by
  have e : (n : Int).natAbs = n := by omega
  rw [e]
  by_cases h0 : n = 0
  · subst h0; decide
  · have : n.log2 < 20 := (Nat.log2_lt h0).mpr (Nat.lt_of_lt_of_le h (by decide))
    omega
theorem fmt_n {a : ME} {env e : En} {n : Nat} (h : a env = some (.int (n : Nat), e)) (hn : n < 1000000) : mFmt a env = some (.str (tx (fg n)), e) := by
  have h1 := log6 hn
  unfold mFmt; rw [h]; simp only [Option.bind_some]; rw [if_pos h1, fg_text]
theorem str_n {n : Nat} (hn : n < 1000000) : dStr [.int (n : Nat)] = some (.str (tx (fg n))) := by
  have h1 := log6 hn
  show (if ((n : Int).natAbs).log2 < 1920 then some (D.str (Str.ofString (toString (n : Int)))) else none) = _
  rw [if_pos h1, fg_text]
theorem emp_app (a : Str) : Str.empty ++ a = a := Str.empty_append a
theorem wp_res (p : Option (Nat × Nat)) (hp : ∀ q, p = some q → Pok q) : res n_write_place m_write_place [.imm (placeD p)] [] = some (.str (tx (plW p)), []) := by
  refine res_eq ?_
  unfold m_write_place
  have ed : ("depot" : Str) = tx dep := rfl
  have ec : (":" : Str) = tx [58] := rfl
  rw [ed, ec]
  cases p with
  | none => simp -implicitDefEqProofs [placeD, plW]
  | some q =>
    obtain ⟨a, b⟩ := q
    obtain ⟨h1, h2⟩ := hp _ rfl
    have h1 : a < 16 := h1
    have h2 : b < 16 := h2
    have l1 := (fg_len (n := a) (by omega)).2
    have l2 := (fg_len (n := b) (by omega)).2
    have T : mTest (mBin (dIs false) (lVar 0) (lFix (mC .non))) [.imm (pD (a, b)), .un, .un] = some (false, [.imm (pD (a, b)), .un, .un]) := rfl
    have v0 : mVar 0 [.imm (pD (a, b)), .un, .un] = some (pD (a, b), [.imm (pD (a, b)), .un, .un]) := rfl
    have G : gT 2 (gsCons (gN 1) (gsCons (gN 2) gsNil)) (pD (a, b)) [.imm (pD (a, b)), .un, .un] = some [.imm (pD (a, b)), .imm (.int (a : Nat)), .imm (.int (b : Nat))] := by simp -implicitDefEqProofs
    have f1 : mFmt (mVar 1) [.imm (pD (a, b)), .imm (.int (a : Nat)), .imm (.int (b : Nat))] = some (.str (tx (fg a)), [.imm (pD (a, b)), .imm (.int (a : Nat)), .imm (.int (b : Nat))]) := fmt_n rfl (by omega)
    have f2 : mFmt (mVar 2) [.imm (pD (a, b)), .imm (.int (a : Nat)), .imm (.int (b : Nat))] = some (.str (tx (fg b)), [.imm (pD (a, b)), .imm (.int (a : Nat)), .imm (.int (b : Nat))]) := fmt_n rfl (by omega)
    have J : mJoined [mFmt (mVar 1), mC (.str (tx [58])), mFmt (mVar 2)] [.imm (pD (a, b)), .imm (.int (a : Nat)), .imm (.int (b : Nat))] = some (.str (tx (fg a ++ 58 :: fg b)), [.imm (pD (a, b)), .imm (.int (a : Nat)), .imm (.int (b : Nat))]) := by
      have z1 : (tx (fg a)).length ≤ sizeLine := szS (by rw [len_tx]; omega)
      have z2 : (tx (fg a ++ [58])).length ≤ sizeLine := szS (by rw [len_tx]; simp; omega)
      have z3 : (tx (fg a ++ [58] ++ fg b)).length ≤ sizeLine := szS (by rw [len_tx]; simp; omega)
      unfold mJoined
      simp only [mJs, ap_C, Option.bind_some, f1, f2, emp_app, z1, if_true, tx_app, z2, z3, Option.map_some]
      simp
    show W _ [.imm (pD (a, b)), .un, .un] _
    rw [W_seq, W_if, T, Gt_some, if_neg (by simp), W_next, sqK_nx, W_seq, Q_asgG, v0, Gt_some, G, Gt_some, sqK_nx, W_ret, J, Gt_some, RtA_ret, ioAt_nil, Gt_some]
    exact ⟨rfl, rfl⟩
theorem fg_no {n c : Nat} (h : c < 48 ∨ 57 < c) : c ∉ fg n := fun z => by have := fg_dig z; omega
theorem non_in (a b : Int) : dInP false .non (.lst [.int a, .int b]) = some (.bl false) := by
  have sh : (SeqAt.shaped PyData.none && SeqAt.shaped (.list [.int a, .int b])) = true := by
    have h1 : SeqAt.shaped PyData.none = true := rfl
    have h2 : SeqAt.shaped (.list [.int a, .int b]) = true := by
      unfold SeqAt.shaped
      simp [PyData.canLay0, PyData.canLayAll0, PyData.depth, PyData.depthAll]
    rw [h1, h2]; rfl
  show (if (SeqAt.shaped PyData.none && SeqAt.shaped (.list [.int a, .int b])) = true then some (D.bl ([PyData.int a, PyData.int b].any fun z => PyData.eqv z PyData.none)) else none) = _
  rw [if_pos sh]
  rfl
theorem rp_res (p : Option (Nat × Nat)) (hp : ∀ q, p = some q → Pok q) : res n_read_place m_read_place [.imm (.str (tx (plW p)))] [] = some (placeD p, []) := by
  refine res_eq ?_
  unfold m_read_place
  have ec : (":" : Str) = ⟨#[58]⟩ := rfl
  have sp := split_tx (tx (plW p)) (c := 58) (by decide)
  rw [cs_tx] at sp
  have hl : (plW p).length ≤ 100 := by
    cases p with
    | none => decide
    | some q =>
      obtain ⟨h1, h2⟩ := hp q rfl
      have l1 := (fg_len (n := q.1) (by omega)).2
      have l2 := (fg_len (n := q.2) (by omega)).2
      unfold plW
      simp
      omega
  obtain ⟨L, hL⟩ : ∃ L, L = splitL 58 (plW p) := ⟨_, rfl⟩
  rw [← hL] at sp
  have S0 : iAny (mM1 fSplit (mVar 0) (mC (.str ":"))) [.imm (.str (tx (plW p))), .un, .un] = some (L.map fun l => .str (tx l), [.imm (.str (tx (plW p))), .un, .un]) := by
    have z : (plW p).length + 2 ≤ sizeLine := szS (by omega)
    have z1 : ((⟨#[58]⟩ : Str).length == 0) = false := rfl
    rw [ec]
    simp -implicitDefEqProofs [mM1, fSplit, z, z1, sp]
  have copy : ∀ (vs : List D), L.length = vs.length → L.length ≤ 2 → (∀ (i : Nat) (l : List Nat) (v : D), L[i]? = some l → vs[i]? = some v → res n_read_number m_read_number [.imm (.str (tx l))] [] = some (v, [])) → mLc [2] (iAny (mM1 fSplit (mVar 0) (mC (.str ":")))) (gN 2) mYes (mCallV n_read_number 1 m_read_number (cImm (mVar 2) cNil)) [.imm (.str (tx (plW p))), .un, .un] = some (.lst vs, [.imm (.str (tx (plW p))), .un, .un]) := by
    intro vs hlen h2 hv
    obtain ⟨acc, e2, h1, ⟨t, rfl⟩, h3⟩ := lc_ok (vs := [2]) (mi := iAny (mM1 fSplit (mVar 0) (mC (.str ":")))) (gf := gN 2) (mt := mYes) (me := mCallV n_read_number 1 m_read_number (cImm (mVar 2) cNil)) (env := [.imm (.str (tx (plW p))), .un, .un]) (e0 := [.imm (.str (tx (plW p))), .un, .un]) (ds := L.map fun l => .str (tx l)) S0 rfl
      (by rw [List.length_map]; omega) (fun e => ∃ t, e = [.imm (.str (tx (plW p))), .un, t]) (fun k acc => acc = vs.take k) ⟨_, rfl⟩ (by simp) (by
        rintro i d e acc hd ⟨t, rfl⟩ rfl
        rw [List.getElem?_map] at hd
        obtain ⟨l, hl, rfl⟩ := Option.map_eq_some_iff.mp hd
        have hi : i < vs.length := by have := (List.getElem?_eq_some_iff.mp hl).1; omega
        obtain ⟨v, hvv⟩ : ∃ v, vs[i]? = some v := ⟨_, List.getElem?_eq_getElem hi⟩
        have rr := hv i l v hl hvv
        generalize tx (plW p) = X
        refine ⟨[.imm (.str X), .un, .imm (.str (tx l))], true, [.imm (.str X), .un, .imm (.str (tx l))], by simp -implicitDefEqProofs [wipeE], rfl, fun _ => ⟨v, [.imm (.str X), .un, .imm (.str (tx l))], by simp -implicitDefEqProofs [V_eq, rr], ⟨_, rfl⟩, ?_⟩, fun z => by cases z⟩
        rw [List.take_add_one, hvv]; rfl)
    rw [List.length_map, hlen, List.take_length] at h3
    rw [h1, h3]
    generalize tx (plW p) = X
    simp -implicitDefEqProofs [backE, wipeE]
  rw [W_seq, W_asgF]
  show Gt (mLc _ _ _ _ _ [.imm (.str (tx (plW p))), .un, .un]) _
  cases p with
  | none =>
    have hL1 : L = [dep] := by rw [hL]; exact split_one 58 dep (by decide)
    have cp := copy [.non] (by rw [hL1]; rfl) (by rw [hL1]; decide) (fun i l v h1 h2 => by
      rw [hL1] at h1
      cases i with
      | zero => simp at h1 h2; rw [← h1, ← h2]; exact rn_depot
      | succ i => simp at h1)
    rw [cp, Gt_some]
    refine ⟨by show 1 < 3; decide, ?_⟩
    generalize tx (plW none) = X
    simp -implicitDefEqProofs [placeD]
  | some q =>
    obtain ⟨a, b⟩ := q
    obtain ⟨h1, h2⟩ := hp _ rfl
    have h1 : a < 16 := h1
    have h2 : b < 16 := h2
    have hL2 : L = [fg a, fg b] := by
      rw [hL]
      show splitL 58 (fg a ++ 58 :: fg b) = _
      rw [split_app 58 (fg a) (fg_no (.inr (by decide))), split_one 58 (fg b) (fg_no (.inr (by decide)))]
    have cp := copy [.int (a : Nat), .int (b : Nat)] (by rw [hL2]; rfl) (by rw [hL2]; exact Nat.le_refl 2) (fun i l v g1 g2 => by
      rw [hL2] at g1
      match i with
      | 0 => simp at g1 g2; rw [← g1, ← g2]; exact rn_num (by omega)
      | 1 => simp at g1 g2; rw [← g1, ← g2]; exact rn_num (by omega)
      | i + 2 => simp at g1)
    rw [cp, Gt_some]
    refine ⟨by show 1 < 3; decide, ?_⟩
    have ni := non_in (a : Nat) (b : Nat)
    generalize tx (plW (some (a, b))) = X
    simp -implicitDefEqProofs [placeD, ni]
end Law
namespace Law
open PySem L2 Q
/-! ## Errands -/
abbrev sW (ws : List (List Nat)) : List D := ws.map fun w => .str (tx w)
abbrev LD : List Nat := [108, 111, 97, 100, 101, 100]
abbrev EM : List Nat := [101, 109, 112, 116, 121]
abbrev WY : List Nat := [119, 97, 121]
def ldW (b : Bool) : List Nat := if b then LD else EM
theorem cutD_from (xs : List D) (k : Nat) : cutD xs (some (k : Int)) none = xs.drop k := by
  have h1 : HT.sIx xs.length 0 (some (k : Int)) = min k xs.length := HT.sIx_nat _ _ _
  have h2 : HT.sIx xs.length xs.length none = xs.length := HT.sIx_none _ _
  unfold cutD
  rw [h1, h2]
  by_cases h : k ≤ xs.length
  · rw [Nat.min_eq_left h, List.take_of_length_le (by rw [List.length_drop]; omega)]
  · rw [Nat.min_eq_right (by omega), Nat.sub_self, List.take_zero, List.drop_eq_nil_of_le (by omega)]
theorem cutD_to (xs : List D) (k : Nat) : cutD xs none (some (k : Int)) = xs.take k := by
  have h1 : HT.sIx xs.length xs.length (some (k : Int)) = min k xs.length := HT.sIx_nat _ _ _
  have h2 : HT.sIx xs.length 0 none = 0 := HT.sIx_none _ _
  unfold cutD
  rw [h1, h2]
  by_cases h : k ≤ xs.length
  · rw [Nat.min_eq_left h]; simp
  · rw [Nat.min_eq_right (by omega), List.take_of_length_le (show xs.length ≤ k by omega)]; simp
theorem in_ld (b : Bool) : dIn true (.str (tx (ldW b))) (.tup [.str (tx LD), .str (tx EM)]) = some (.bl false) := by
  cases b <;> rfl
theorem is_ld (b : Bool) : decide (tx (ldW b) = tx LD) = b := by
  cases b with
  | true => exact decT rfl
  | false => exact decF (fun z => by have := tx_inj.mp z; revert this; decide)
theorem rs_res (b : Bool) {o : Nat} (ho : o < 1000000) : res n_read_share m_read_share [.imm (.lst [.str (tx (ldW b)), .str (tx (fg o))])] [] = some (.tup [.bl b, .int (o : Nat)], []) := by
  refine res_eq ?_
  unfold m_read_share
  have e1 : ("loaded" : Str) = tx LD := rfl
  have e2 : ("empty" : Str) = tx EM := rfl
  have rn := rn_num ho
  have il := in_ld b
  have is_ := is_ld b
  rw [e1, e2]
  generalize ldW b = l at *
  simp -implicitDefEqProofs [il]
  simp -implicitDefEqProofs [V_eq, rn, mIf]
  simpa using is_
/-- None is not among places -/
theorem non_P (ps : List (Nat × Nat)) : dInP false .non (.lst (ps.map pD)) = some (.bl false) := by
  have k1 : ∀ ps : List (Nat × Nat), toPs (ps.map pD) = some (ps.map fun p => PyData.tuple [.int (p.1 : Nat), .int (p.2 : Nat)]) := fun ps => by
    induction ps with
    | nil => rfl
    | cons p ps ih => simp [toPs, toP, ih]
  have k2 : ∀ ps : List (Nat × Nat), PyData.canLayAll0 (ps.map fun p => PyData.tuple [.int (p.1 : Nat), .int (p.2 : Nat)]) = true ∧ PyData.depthAll (ps.map fun p => PyData.tuple [.int (p.1 : Nat), .int (p.2 : Nat)]) ≤ 3 := fun ps => by
    induction ps with
    | nil => exact ⟨rfl, by decide⟩
    | cons p ps ih =>
      obtain ⟨a, b⟩ := ih
      exact ⟨by simp [PyData.canLayAll0, PyData.canLay0, a], by simp [PyData.depthAll, PyData.depth]; omega⟩
  have k3 : ∀ ps : List (Nat × Nat), (ps.map fun p => PyData.tuple [.int (p.1 : Nat), .int (p.2 : Nat)]).any (fun z => PyData.eqv z PyData.none) = false := fun ps => by
    induction ps with
    | nil => rfl
    | cons p ps ih => simp only [List.map_cons, List.any_cons, ih, Bool.or_false]; rfl
  have sh : SeqAt.shaped (.list (ps.map fun p => PyData.tuple [.int (p.1 : Nat), .int (p.2 : Nat)])) = true := by
    unfold SeqAt.shaped
    obtain ⟨a, b⟩ := k2 ps
    simp [PyData.canLay0, PyData.depth, a]
    omega
  have sn : SeqAt.shaped PyData.none = true := rfl
  show ((toP D.non).bind fun d => (toPs (ps.map pD)).bind fun ds => if (SeqAt.shaped d && SeqAt.shaped (.list ds)) = true then some (D.bl (if false then !(ds.any fun z => PyData.eqv z d) else ds.any fun z => PyData.eqv z d)) else none) = _
  rw [k1]
  show (if (SeqAt.shaped PyData.none && SeqAt.shaped (.list (ps.map fun p => PyData.tuple [.int (p.1 : Nat), .int (p.2 : Nat)]))) = true then some (D.bl ((ps.map fun p => PyData.tuple [.int (p.1 : Nat), .int (p.2 : Nat)]).any fun z => PyData.eqv z PyData.none)) else none) = _
  rw [sn, sh, if_pos (by rfl), k3]
def wayW (ps : List (Nat × Nat)) : List (List Nat) := if ps.isEmpty then [] else WY :: ps.map fun p => plW (some p)
theorem rw_res (ps : List (Nat × Nat)) (hp : ∀ p ∈ ps, Pok p) (hl : ps.length ≤ 100) : res n_read_way m_read_way [.imm (.lst (sW (wayW ps)))] [] = some (.lst (ps.map pD), []) := by
  refine res_eq ?_
  unfold m_read_way
  have ew : ("way" : Str) = tx WY := rfl
  rw [ew]
  obtain ⟨X, hX⟩ : ∃ X, X = sW (wayW ps) := ⟨_, rfl⟩
  have hd : X.drop 1 = sW (ps.map fun p => plW (some p)) := by
    rw [hX]
    unfold wayW
    cases ps with
    | nil => rfl
    | cons p ps => rfl
  have cd : dSlL (.lst X) (some 1) none = some (.lst (sW (ps.map fun p => plW (some p)))) := by
    show some (D.lst (cutD X (some ((1 : Nat) : Int)) none)) = _
    rw [cutD_from, hd]
  rw [← hX]
  obtain ⟨acc, e2, h1, ⟨t, rfl⟩, h3⟩ := lc_ok (vs := [2]) (mi := iAny (mSl dSlL (lVar 0) (oSome (mC (.int 1))) oNone)) (gf := gN 2) (mt := mYes) (me := mCallV n_read_place 1 m_read_place (cImm (mVar 2) cNil)) (env := [.imm (.lst X), .un, .un]) (e0 := [.imm (.lst X), .un, .un]) (ds := sW (ps.map fun p => plW (some p))) (by simp -implicitDefEqProofs [cd]) rfl
    (by rw [List.length_map, List.length_map]; omega) (fun e => ∃ t, e = [.imm (.lst X), .un, t]) (fun k acc => acc = (ps.take k).map pD) ⟨_, rfl⟩ (by simp) (by
      rintro i d e acc hd ⟨t, rfl⟩ rfl
      rw [List.getElem?_map, List.getElem?_map] at hd
      obtain ⟨w, hw, rfl⟩ := Option.map_eq_some_iff.mp hd
      obtain ⟨p, hpi, rfl⟩ := Option.map_eq_some_iff.mp hw
      have rp := rp_res (some p) (fun q e => by cases e; exact hp p (List.mem_of_getElem? hpi))
      refine ⟨[.imm (.lst X), .un, .imm (.str (tx (plW (some p))))], true, [.imm (.lst X), .un, .imm (.str (tx (plW (some p))))], by simp -implicitDefEqProofs [wipeE], rfl, fun _ => ⟨pD p, [.imm (.lst X), .un, .imm (.str (tx (plW (some p))))], ?_, ⟨_, rfl⟩, ?_⟩, fun z => by cases z⟩
      · have rp : res n_read_place m_read_place [.imm (.str (tx (plW (some p))))] [] = some (pD p, []) := rp
        generalize tx (plW (some p)) = Y at rp ⊢
        generalize pD p = PD at rp ⊢
        simp -implicitDefEqProofs [V_eq, rp]
      · rw [List.take_add_one, hpi]; simp)
  rw [List.length_map, List.length_map, List.take_length] at h3
  have hbk : backE [.imm (.lst X), .un, .un] (wipeE [.imm (.lst X), .un, t] [2]) [2] = [.imm (.lst X), .un, .un] := by simp -implicitDefEqProofs [backE, wipeE]
  rw [hbk, h3] at h1
  have np := non_P ps
  rw [W_seq, W_asgF]
  show Gt (mLc _ _ _ _ _ [.imm (.lst X), .un, .un]) _
  rw [h1, Gt_some]
  refine ⟨by show 1 < 3; decide, ?_⟩
  rw [sqK_nx]
  show W _ [.imm (.lst X), .own (.lst (ps.map pD)), .un] _
  cases ps with
  | nil =>
    have hX0 : X = [] := by rw [hX]; rfl
    subst hX0
    simp -implicitDefEqProofs [dTru]
  | cons p ps =>
    have t0 : dTru (.lst X) = some true := by rw [hX]; rfl
    have t1 : dTru (.lst ((p :: ps).map pD)) = some true := rfl
    have ix : dIx (.lst X) (.int 0) = some (.str (tx WY)) := by
      have e : X = .str (tx WY) :: sW (ps.map (fun p => plW (some p)) |>.cons (plW (some p))) := by rw [hX]; rfl
      rw [e, Q.ix_lst, atI_0]; rfl
    generalize (p :: ps).map pD = Y at *
    simp -implicitDefEqProofs [t0, t1, ix, np, -Q.ix_lst]
/-- what a robot is said to do -/
structure Er where
  order : Option Nat
  loaded : Bool
  way : List (Nat × Nat)
structure Eok (e : Er) : Prop where
  o : ∀ n, e.order = some n → n < 1000000
  l : e.order = none → e.loaded = false
  w : ∀ p ∈ e.way, Pok p
  n : e.way.length ≤ 100
def orD : Option Nat → D
  | none => .non
  | some n => .int (n : Nat)
def shW (b : Bool) : Option Nat → List (List Nat)
  | none => []
  | some n => [ldW b, fg n]
def eW (e : Er) : List (List Nat) := shW e.loaded e.order ++ wayW e.way
def eD (e : Er) : D := .tup [orD e.order, .bl e.loaded, .lst (e.way.map pD)]
theorem ld_way (b : Bool) : decide (tx (ldW b) = tx WY) = false := by
  cases b <;> exact decF (fun z => by have := tx_inj.mp z; revert this; decide)
theorem re_res (e : Er) (he : Eok e) : res n_read_errand m_read_errand [.imm (.lst (sW (eW e)))] [] = some (eD e, []) := by
  refine res_eq ?_
  unfold m_read_errand
  have ew : ("way" : Str) = tx WY := rfl
  rw [ew]
  obtain ⟨o, l, w⟩ := e
  have rw_ := rw_res w he.w he.n
  obtain ⟨X, hX⟩ : ∃ X, X = sW (eW ⟨o, l, w⟩) := ⟨_, rfl⟩
  rw [← hX]
  obtain ⟨Y, hY⟩ : ∃ Y, Y = sW (wayW w) := ⟨_, rfl⟩
  obtain ⟨PW, hPW⟩ : ∃ Y, Y = w.map pD := ⟨_, rfl⟩
  rw [← hY, ← hPW] at rw_
  have tail : ∀ (od : D) (lb : Bool) (s4 : Sl), od = orD o → lb = l → W (mSeq (mAsg 5 (mCallV n_read_way 1 m_read_way (cBor 3 cNil)))
      (mRet (mIf (mTest (mBin (dIs false) (lVar 5) (lFix (mC .non)))) (mC .non) (mTup (aCons (mVar 1) (aCons (mVar 2) (aCons (mVar 5) aNil))))))) [.imm (.lst X), .imm od, .imm (.bl lb), .imm (.lst Y), s4, .un] (RtA [] fun _ d ds => d = eD ⟨o, l, w⟩ ∧ ds = []) := by
    rintro od lb s4 rfl rfl
    have A : mCallV n_read_way 1 m_read_way (cBor 3 cNil) [.imm (.lst X), .imm (orD o), .imm (.bl lb), .imm (.lst Y), s4, .un] = some (.lst PW, [.imm (.lst X), .imm (orD o), .imm (.bl lb), .imm (.lst Y), s4, .un]) := by
      simp -implicitDefEqProofs [V_eq, rw_]
    rw [W_seq, W_asg, A, Gt_some]
    refine ⟨by show 5 < 6; decide, ?_⟩
    rw [sqK_nx, W_ret]
    show Gt (mIf _ _ _ [.imm (.lst X), .imm (orD o), .imm (.bl lb), .imm (.lst Y), s4, .imm (.lst PW)]) _
    have B : mIf (mTest (mBin (dIs false) (lVar 5) (lFix (mC .non)))) (mC .non) (mTup (aCons (mVar 1) (aCons (mVar 2) (aCons (mVar 5) aNil)))) [.imm (.lst X), .imm (orD o), .imm (.bl lb), .imm (.lst Y), s4, .imm (.lst PW)] = some (.tup [orD o, .bl lb, .lst PW], [.imm (.lst X), .imm (orD o), .imm (.bl lb), .imm (.lst Y), s4, .imm (.lst PW)]) := by
      generalize orD o = od
      unfold mIf
      simp -implicitDefEqProofs
    rw [B, Gt_some, RtA_ret, ioAt_nil, Gt_some, hPW]
    exact ⟨rfl, rfl⟩
  rw [W_seq, W_asg, ap_C, Gt_some]
  refine ⟨by show 1 < 6; decide, ?_⟩
  rw [sqK_nx, W_seq, W_asg, ap_C, Gt_some]
  refine ⟨by show 2 < 6; decide, ?_⟩
  rw [sqK_nx, W_seq, W_asg]
  show Gt (mVar 0 [.imm (.lst X), .imm .non, .imm (.bl false), .un, .un, .un]) _
  have v0 : mVar 0 [.imm (.lst X), .imm .non, .imm (.bl false), .un, .un, .un] = some (.lst X, [.imm (.lst X), .imm .non, .imm (.bl false), .un, .un, .un]) := rfl
  rw [v0, Gt_some]
  refine ⟨by show 3 < 6; decide, ?_⟩
  rw [sqK_nx, W_seq]
  show W (mIfS _ _ _) [.imm (.lst X), .imm .non, .imm (.bl false), .imm (.lst X), .un, .un] _
  cases o with
  | none =>
    have hl : l = false := he.l rfl
    have hXY : X = Y := by rw [hX, hY]; rfl
    have T : mAnd (mTru (lVar 0)) (mTest (mBin (dEqv true) (lFix (mBin dIx (lVar 0) (lFix (mC (.int 0))))) (lFix (mC (.str (tx WY)))))) [.imm (.lst X), .imm .non, .imm (.bl false), .imm (.lst X), .un, .un] = some (false, [.imm (.lst X), .imm .non, .imm (.bl false), .imm (.lst X), .un, .un]) := by
      cases w with
      | nil =>
        have hX0 : X = [] := by rw [hX]; rfl
        rw [hX0]; rfl
      | cons p w =>
        have e : X = .str (tx WY) :: sW (List.map (fun p => plW (some p)) (p :: w)) := by rw [hX]; rfl
        have t0 : dTru (.lst X) = some true := by rw [e]; rfl
        have ix : dIx (.lst X) (.int 0) = some (.str (tx WY)) := by rw [e, Q.ix_lst, atI_0]; rfl
        simp -implicitDefEqProofs [t0, ix, -Q.ix_lst]
    rw [W_if, T, Gt_some, if_neg (by simp), W_next, sqK_nx]
    have := tail .non false .un rfl hl.symm
    rw [← hXY] at this
    exact this
  | some n =>
    have hn := he.o n rfl
    have rs := rs_res l hn
    have e : X = .str (tx (ldW l)) :: .str (tx (fg n)) :: Y := by rw [hX, hY]; rfl
    have t0 : dTru (.lst X) = some true := by rw [e]; rfl
    have ix : dIx (.lst X) (.int 0) = some (.str (tx (ldW l))) := by rw [e, Q.ix_lst, atI_0]; rfl
    have s2 : dSlL (.lst X) none (some 2) = some (.lst [.str (tx (ldW l)), .str (tx (fg n))]) := by
      show some (D.lst (cutD X none (some ((2 : Nat) : Int)))) = _
      rw [cutD_to, e]; rfl
    have s3 : dSlL (.lst X) (some 2) none = some (.lst Y) := by
      show some (D.lst (cutD X (some ((2 : Nat) : Int)) none)) = _
      rw [cutD_from, e]; rfl
    have nw := ld_way l
    generalize ldW l = LW at *
    have T : mAnd (mTru (lVar 0)) (mTest (mBin (dEqv true) (lFix (mBin dIx (lVar 0) (lFix (mC (.int 0))))) (lFix (mC (.str (tx WY)))))) [.imm (.lst X), .imm .non, .imm (.bl false), .imm (.lst X), .un, .un] = some (true, [.imm (.lst X), .imm .non, .imm (.bl false), .imm (.lst X), .un, .un]) := by
      simp -implicitDefEqProofs only [ap_And, ap_Tru, ap_Test, ap_Bin, ap_lVar, ap_lFix, ap_C, List.getElem?_cons_zero, Option.bind_some, Option.map_some, rd_imm, get_slot, get_fix, t0, ix, eqv_str, nw, if_true, Bool.not_false]
    have A : mCallV n_read_share 1 m_read_share (cImm (mSl dSlL (lVar 0) oNone (oSome (mC (.int 2)))) cNil) [.imm (.lst X), .imm .non, .imm (.bl false), .imm (.lst X), .un, .un] = some (.tup [.bl l, .int (n : Nat)], [.imm (.lst X), .imm .non, .imm (.bl false), .imm (.lst X), .un, .un]) := by
      simp -implicitDefEqProofs [V_eq, s2, rs]
    rw [W_if, T, Gt_some, if_pos rfl, W_seq, W_asg, A, Gt_some]
    refine ⟨by show 4 < 6; decide, ?_⟩
    have T2 : mTest (mBin (dIs false) (lVar 4) (lFix (mC .non))) [.imm (.lst X), .imm .non, .imm (.bl false), .imm (.lst X), .imm (.tup [.bl l, .int (n : Nat)]), .un] = some (false, [.imm (.lst X), .imm .non, .imm (.bl false), .imm (.lst X), .imm (.tup [.bl l, .int (n : Nat)]), .un]) := rfl
    rw [sqK_nx, W_seq, W_if]
    show Gt (mTest _ [.imm (.lst X), .imm .non, .imm (.bl false), .imm (.lst X), .imm (.tup [.bl l, .int (n : Nat)]), .un]) _
    rw [T2, Gt_some, if_neg (by simp), W_next, sqK_nx, W_seq, Q_asgG]
    have v4 : mVar 4 [.imm (.lst X), .imm .non, .imm (.bl false), .imm (.lst X), .imm (.tup [.bl l, .int (n : Nat)]), .un] = some (.tup [.bl l, .int (n : Nat)], [.imm (.lst X), .imm .non, .imm (.bl false), .imm (.lst X), .imm (.tup [.bl l, .int (n : Nat)]), .un]) := rfl
    have G : gT 2 (gsCons (gN 2) (gsCons (gN 1) gsNil)) (.tup [.bl l, .int (n : Nat)]) [.imm (.lst X), .imm .non, .imm (.bl false), .imm (.lst X), .imm (.tup [.bl l, .int (n : Nat)]), .un] = some [.imm (.lst X), .imm (.int (n : Nat)), .imm (.bl l), .imm (.lst X), .imm (.tup [.bl l, .int (n : Nat)]), .un] := by simp -implicitDefEqProofs
    rw [v4, Gt_some, G, Gt_some, sqK_nx, W_asg]
    have S : mSl dSlL (lVar 0) (oSome (mC (.int 2))) oNone [.imm (.lst X), .imm (.int (n : Nat)), .imm (.bl l), .imm (.lst X), .imm (.tup [.bl l, .int (n : Nat)]), .un] = some (.lst Y, [.imm (.lst X), .imm (.int (n : Nat)), .imm (.bl l), .imm (.lst X), .imm (.tup [.bl l, .int (n : Nat)]), .un]) := by
      simp -implicitDefEqProofs [s3]
    rw [S, Gt_some]
    refine ⟨by show 3 < 6; decide, ?_⟩
    rw [sqK_nx]
    exact tail (.int (n : Nat)) l _ rfl rfl
end Law
namespace Law
open PySem L2 Q
/-! ## Robots and orders: read -/
abbrev RB : List Nat := [114, 111, 98, 111, 116]
abbrev OR : List Nat := [111, 114, 100, 101, 114]
abbrev BR : List Nat := [98, 114, 111, 107, 101, 110]
abbrev RU : List Nat := [114, 117, 110, 115]
abbrev DN : List Nat := [100, 111, 110, 101]
abbrev WT : List Nat := [119, 97, 105, 116, 115]
def brW (b : Bool) : List Nat := if b then BR else RU
structure Rob where
  place : Option (Nat × Nat)
  broken : Bool
  er : Er
structure Rok (r : Rob) : Prop where
  p : ∀ q, r.place = some q → Pok q
  e : Eok r.er
def robW (n : Nat) (r : Rob) : List (List Nat) := [RB, fg n, plW r.place, brW r.broken] ++ eW r.er
def robD (r : Rob) : D := .tup [placeD r.place, .bl r.broken, orD r.er.order, .bl r.er.loaded, .lst (r.er.way.map pD)]
theorem in_br (b : Bool) : dIn true (.str (tx (brW b))) (.tup [.str (tx BR), .str (tx RU)]) = some (.bl false) := by cases b <;> rfl
theorem is_br (b : Bool) : decide (tx (brW b) = tx BR) = b := by
  cases b with
  | true => exact decT rfl
  | false => exact decF (fun z => by have := tx_inj.mp z; revert this; decide)
theorem rrob_res (n : Nat) (r : Rob) (hn : n < 1000000) (hr : Rok r) : res n_read_robot m_read_robot [.imm (.int (n : Nat)), .imm (.lst (sW (robW n r)))] [] = some (robD r, []) := by
  refine res_eq ?_
  unfold m_read_robot
  have e1 : ("robot" : Str) = tx RB := rfl
  have e2 : ("depot" : Str) = tx dep := rfl
  have e3 : ("broken" : Str) = tx BR := rfl
  have e4 : ("runs" : Str) = tx RU := rfl
  rw [e1, e2, e3, e4]
  obtain ⟨X, hX⟩ : ∃ X, X = sW (robW n r) := ⟨_, rfl⟩
  obtain ⟨Y, hY⟩ : ∃ Y, Y = sW (eW r.er) := ⟨_, rfl⟩
  have e : X = .str (tx RB) :: .str (tx (fg n)) :: .str (tx (plW r.place)) :: .str (tx (brW r.broken)) :: Y := by rw [hX, hY]; rfl
  have x0 : dIx (.lst X) (.int 0) = some (.str (tx RB)) := by rw [e, Q.ix_lst, atI_0]; rfl
  have x1 : dIx (.lst X) (.int 1) = some (.str (tx (fg n))) := by rw [e, Q.ix_lst, atI_1]; rfl
  have x2 : dIx (.lst X) (.int 2) = some (.str (tx (plW r.place))) := by rw [e, Q.ix_lst, atI_2]; rfl
  have x3 : dIx (.lst X) (.int 3) = some (.str (tx (brW r.broken))) := by
    rw [e, Q.ix_lst]
    have := atI_cast (.str (tx RB) :: .str (tx (fg n)) :: .str (tx (plW r.place)) :: .str (tx (brW r.broken)) :: Y) 3
    exact this
  have s4 : dSlL (.lst X) (some 4) none = some (.lst Y) := by
    show some (D.lst (cutD X (some ((4 : Nat) : Int)) none)) = _
    rw [cutD_from, e]; rfl
  have hl : ¬ ((X.length : Nat) : Int) < 4 := by rw [e]; simp only [List.length_cons]; omega
  have rn := rn_num hn
  have rp := rp_res r.place hr.p
  have re := re_res r.er hr.e
  have ib := in_br r.broken
  have isb := is_br r.broken
  rw [← hX]
  rw [← hY] at re
  have hpd : mAnd (mTest (mBin (dIs false) (lVar 2) (lFix (mC .non)))) (mTest (mBin (dEqv true) (lFix (mBin dIx (lVar 1) (lFix (mC (.int 2))))) (lFix (mC (.str (tx dep)))))) [.imm (.int (n : Nat)), .imm (.lst X), .imm (placeD r.place), .imm (eD r.er), .un, .un, .un] = some (false, [.imm (.int (n : Nat)), .imm (.lst X), .imm (placeD r.place), .imm (eD r.er), .un, .un, .un]) := by
    cases hp : r.place with
    | none =>
      rw [hp] at x2
      have x2 : dIx (.lst X) (.int 2) = some (.str (tx dep)) := x2
      simp -implicitDefEqProofs [placeD, x2, -Q.ix_lst]
    | some q =>
      have hq : (placeD (some q)).isNon = false := rfl
      generalize placeD (some q) = PD at hq
      simp -implicitDefEqProofs [hq]
  unfold robD
  unfold eD at re hpd
  obtain ⟨ED, hED⟩ : ∃ ED, ED = D.tup [orD r.er.order, .bl r.er.loaded, .lst (r.er.way.map pD)] := ⟨_, rfl⟩
  generalize orD r.er.order = OD at *
  generalize r.er.way.map pD = WD at *
  generalize r.er.loaded = ll at *
  rw [← hED] at re hpd
  generalize plW r.place = PW at *
  generalize placeD r.place = PD at *
  generalize brW r.broken = BW at *
  generalize r.broken = bb at *
  have T1 : mOr (mTest (mBin dLt (lFix (mBi dLen (bCons (lVar 1) bNil))) (lFix (mC (.int 4))))) (mOr (mTest (mBin (dEqv true) (lFix (mBin dIx (lVar 1) (lFix (mC (.int 0))))) (lFix (mC (.str (tx RB)))))) (mTest (mBin (dEqv true) (lFix (mCallV n_read_number 1 m_read_number (cImm (mBin dIx (lVar 1) (lFix (mC (.int 1)))) cNil))) (lVar 0)))) [.imm (.int (n : Nat)), .imm (.lst X), .un, .un, .un, .un, .un] = some (false, [.imm (.int (n : Nat)), .imm (.lst X), .un, .un, .un, .un, .un]) := by
    simp -implicitDefEqProofs [hl, x0, x1, V_eq, rn, -Q.ix_lst]
  have A2 : mCallV n_read_place 1 m_read_place (cImm (mBin dIx (lVar 1) (lFix (mC (.int 2)))) cNil) [.imm (.int (n : Nat)), .imm (.lst X), .un, .un, .un, .un, .un] = some (PD, [.imm (.int (n : Nat)), .imm (.lst X), .un, .un, .un, .un, .un]) := by
    simp -implicitDefEqProofs [V_eq, x2, rp, -Q.ix_lst]
  have A3 : mCallV n_read_errand 1 m_read_errand (cImm (mSl dSlL (lVar 1) (oSome (mC (.int 4))) oNone) cNil) [.imm (.int (n : Nat)), .imm (.lst X), .imm PD, .un, .un, .un, .un] = some (ED, [.imm (.int (n : Nat)), .imm (.lst X), .imm PD, .un, .un, .un, .un]) := by
    simp -implicitDefEqProofs [V_eq, s4, re]
  have hne : ED.isNon = false := by rw [hED]; rfl
  rw [W_seq, W_if]
  show Gt (mOr _ _ [.imm (.int (n : Nat)), .imm (.lst X), .un, .un, .un, .un, .un]) _
  rw [T1, Gt_some, if_neg (by simp), W_next, sqK_nx, W_seq, W_asg, A2, Gt_some]
  refine ⟨by show 2 < 7; decide, ?_⟩
  rw [sqK_nx, W_seq, W_asg]
  show Gt (mCallV _ _ _ _ [.imm (.int (n : Nat)), .imm (.lst X), .imm PD, .un, .un, .un, .un]) _
  rw [A3, Gt_some]
  refine ⟨by show 3 < 7; decide, ?_⟩
  rw [sqK_nx, W_seq, W_if]
  show Gt (mOr _ _ [.imm (.int (n : Nat)), .imm (.lst X), .imm PD, .imm ED, .un, .un, .un]) _
  have T4 : mOr (mTest (mBin (dIn true) (lFix (mBin dIx (lVar 1) (lFix (mC (.int 3))))) (lFix (mTup (aCons (mC (.str (tx BR))) (aCons (mC (.str (tx RU))) aNil)))))) (mTest (mBin (dIs false) (lVar 3) (lFix (mC .non)))) [.imm (.int (n : Nat)), .imm (.lst X), .imm PD, .imm ED, .un, .un, .un] = some (false, [.imm (.int (n : Nat)), .imm (.lst X), .imm PD, .imm ED, .un, .un, .un]) := by
    simp -implicitDefEqProofs [x3, ib, hne, -Q.ix_lst]
  rw [ap_Or, hpd, Option.bind_some, if_neg (by simp), T4, Gt_some, if_neg (by simp), W_next, sqK_nx, W_seq, Q_asgG]
  have v3 : mVar 3 [.imm (.int (n : Nat)), .imm (.lst X), .imm PD, .imm ED, .un, .un, .un] = some (ED, [.imm (.int (n : Nat)), .imm (.lst X), .imm PD, .imm ED, .un, .un, .un]) := rfl
  have G : gT 3 (gsCons (gN 4) (gsCons (gN 5) (gsCons (gN 6) gsNil))) ED [.imm (.int (n : Nat)), .imm (.lst X), .imm PD, .imm ED, .un, .un, .un] = some [.imm (.int (n : Nat)), .imm (.lst X), .imm PD, .imm ED, .imm OD, .imm (.bl ll), .imm (.lst WD)] := by
    rw [hED]; simp -implicitDefEqProofs
  rw [v3, Gt_some, G, Gt_some, sqK_nx, W_ret]
  have t5 := Tup_ok (a := aCons (mVar 2) (aCons (mBin (dEqv false) (lFix (mBin dIx (lVar 1) (lFix (mC (.int 3))))) (lFix (mC (.str (tx BR))))) (aCons (mVar 4) (aCons (mVar 5) (aCons (mVar 6) aNil))))) (env := [.imm (.int (n : Nat)), .imm (.lst X), .imm PD, .imm ED, .imm OD, .imm (.bl ll), .imm (.lst WD)]) (e := [.imm (.int (n : Nat)), .imm (.lst X), .imm PD, .imm ED, .imm OD, .imm (.bl ll), .imm (.lst WD)]) (xs := [PD, .bl bb, OD, .bl ll, .lst WD]) (by
    simp -implicitDefEqProofs [x3, -Q.ix_lst]
    simpa using isb) (by simp)
  rw [t5, Gt_some, RtA_ret, ioAt_nil, Gt_some]
  exact ⟨rfl, rfl⟩
end Law
namespace Law
open PySem L2 Q
inductive St where
  | done
  | waits
  | has (n : Nat) (b : Bool)
structure Ord where
  s : Nat
  g : Nat
  st : St
def Stok : St → Prop
  | .has n _ => n < 1000000
  | _ => True
structure Ook (o : Ord) : Prop where
  s : o.s < 8
  g : o.g < 8
  st : Stok o.st
def stW : St → List (List Nat)
  | .done => [DN]
  | .waits => [WT]
  | .has n b => [ldW b, fg n]
def stDs : St → List D
  | .done => [.bl true, .non, .bl false]
  | .waits => [.bl false, .non, .bl false]
  | .has n b => [.bl false, .int (n : Nat), .bl b]
def ordW (n : Nat) (o : Ord) : List (List Nat) := [OR, fg n, [65 + o.s], [65 + o.g]] ++ stW o.st
def ordD (o : Ord) : D := .tup ([.str (tx [65 + o.s]), .str (tx [65 + o.g])] ++ stDs o.st)
theorem ok_tx {l : List Nat} (h : ∀ c ∈ l, c < 1000) : PyData.strOk (tx l) = true := by
  unfold PyData.strOk
  show (l.toArray).all _ = true
  rw [List.all_toArray, List.all_eq_true]
  intro c hc
  have := h c hc
  exact decide_eq_true (by omega)
theorem fg_ok (n : Nat) : PyData.strOk (tx (fg n)) = true := ok_tx fun c hc => by have := fg_dig hc; omega
theorem ld_ok (b : Bool) : PyData.strOk (tx (ldW b)) = true := by cases b <;> decide +kernel
theorem eq_st (st : St) (w : List Nat) (hw : PyData.strOk (tx w) = true) : dEqv false (.lst (sW (stW st))) (.lst [.str (tx w)]) = some (.bl (decide (stW st = [w]))) := by
  have e : (.lst [.str (tx w)] : D) = .lst (sW [w]) := rfl
  have sh1 : ∀ a : List Nat, PyData.strOk (tx a) = true → SeqAt.shaped (.list [.str (tx a)]) = true := fun a ha => by
    unfold SeqAt.shaped; simp [PyData.canLay0, PyData.canLayAll0, PyData.depth, PyData.depthAll, ha]
  have sh2 : ∀ a b : List Nat, PyData.strOk (tx a) = true → PyData.strOk (tx b) = true → SeqAt.shaped (.list [.str (tx a), .str (tx b)]) = true := fun a b ha hb => by
    unfold SeqAt.shaped; simp [PyData.canLay0, PyData.canLayAll0, PyData.depth, PyData.depthAll, ha, hb]
  have one : ∀ a : List Nat, PyData.strOk (tx a) = true → dEqv false (.lst [.str (tx a)]) (.lst [.str (tx w)]) = some (.bl (decide ([a] = [w]))) := fun a ha => by
    show (if (SeqAt.shaped (.list [.str (tx a)]) && SeqAt.shaped (.list [.str (tx w)])) = true then some (D.bl (PyData.eqv (.list [.str (tx a)]) (.list [.str (tx w)]))) else none) = _
    rw [sh1 a ha, sh1 w hw, if_pos (by rfl)]
    have : PyData.eqv (.list [.str (tx a)]) (.list [.str (tx w)]) = decide ([a] = [w]) := by
      by_cases h : a = w
      · subst h
        have h2 := SeqAt.eqv_refl (PyData.list [.str (tx a)]) (by simp [PyData.canLay0, PyData.canLayAll0, ha])
        rw [h2]; simp
      · have : ¬ tx a = tx w := fun z => h (tx_inj.mp z)
        simp [PyData.eqv, PyData.eqvAll, h, this]
    rw [this]
  cases st with
  | done => exact one DN (by decide +kernel)
  | waits => exact one WT (by decide +kernel)
  | has n b =>
    show (if (SeqAt.shaped (.list [.str (tx (ldW b)), .str (tx (fg n))]) && SeqAt.shaped (.list [.str (tx w)])) = true then some (D.bl (PyData.eqv (.list [.str (tx (ldW b)), .str (tx (fg n))]) (.list [.str (tx w)]))) else none) = _
    rw [sh2 _ _ (ld_ok b) (fg_ok n), sh1 w hw, if_pos (by rfl)]
    have : PyData.eqv (.list [.str (tx (ldW b)), .str (tx (fg n))]) (.list [.str (tx w)]) = false := by
      simp [PyData.eqv, PyData.eqvAll]
    rw [this]
    simp [stW]
theorem ros_res (st : St) (h : Stok st) : res n_read_order_state m_read_order_state [.imm (.lst (sW (stW st)))] [] = some (.tup (stDs st), []) := by
  refine res_eq ?_
  unfold m_read_order_state
  have e1 : ("done" : Str) = tx DN := rfl
  have e2 : ("waits" : Str) = tx WT := rfl
  have q1 := eq_st st DN (by decide +kernel)
  have q2 := eq_st st WT (by decide +kernel)
  rw [e1, e2]
  cases st with
  | done =>
    have q1 : dEqv false (.lst (sW (stW .done))) (.lst [.str (tx DN)]) = some (.bl true) := q1
    generalize sW (stW .done) = X at *
    simp -implicitDefEqProofs [q1, stDs]
  | waits =>
    have q1 : dEqv false (.lst (sW (stW .waits))) (.lst [.str (tx DN)]) = some (.bl false) := q1
    have q2 : dEqv false (.lst (sW (stW .waits))) (.lst [.str (tx WT)]) = some (.bl true) := q2
    generalize sW (stW .waits) = X at *
    simp -implicitDefEqProofs [q1, q2, stDs]
  | has n b =>
    have hn : n < 1000000 := h
    have d1 : decide (stW (.has n b) = [DN]) = false := decF (fun z => by injection z with _ z; cases z)
    have d2 : decide (stW (.has n b) = [WT]) = false := decF (fun z => by injection z with _ z; cases z)
    rw [d1] at q1
    rw [d2] at q2
    have rs : res n_read_share m_read_share [.imm (.lst (sW (stW (.has n b))))] [] = some (.tup [.bl b, .int (n : Nat)], []) := rs_res b hn
    generalize sW (stW (.has n b)) = X at *
    have A : mCallV n_read_share 1 m_read_share (cBor 0 cNil) [.imm (.lst X), .un, .un, .un] = some (.tup [.bl b, .int (n : Nat)], [.imm (.lst X), .un, .un, .un]) := by
      simp -implicitDefEqProofs [V_eq, rs]
    have T1 : ∀ (w : List Nat), dEqv false (.lst X) (.lst [.str (tx w)]) = some (.bl false) → mTest (mBin (dEqv false) (lVar 0) (lFix (mLst (aCons (mC (.str (tx w))) aNil)))) [.imm (.lst X), .un, .un, .un] = some (false, [.imm (.lst X), .un, .un, .un]) := fun w hw => by
      simp -implicitDefEqProofs [hw]
    show W _ [.imm (.lst X), .un, .un, .un] _
    rw [W_seq, W_if, T1 _ q1, Gt_some, if_neg (by simp), W_next, sqK_nx, W_seq, W_if, T1 _ q2, Gt_some, if_neg (by simp), W_next, sqK_nx, W_seq, W_asg, A, Gt_some]
    refine ⟨by show 1 < 4; decide, ?_⟩
    rw [sqK_nx]
    show W _ [.imm (.lst X), .imm (.tup [.bl b, .int (n : Nat)]), .un, .un] _
    simp -implicitDefEqProofs [stDs, D.isNon]
theorem let_res {k : Nat} (h : k < 8) : res n_is_letter m_is_letter [.imm (.str (tx [65 + k]))] [] = some (.bl true, []) := by
  refine res_eq ?_
  unfold m_is_letter
  have is := in_sign false (65 + k) "ABCDEFGH"
  have hm : decide ((65 + k) ∈ ("ABCDEFGH" : Str).cps.toList) = true := by
    have : ∀ k < 8, decide ((65 + k) ∈ ("ABCDEFGH" : Str).cps.toList) = true := by decide +kernel
    exact this k h
  rw [hm] at is
  have z : 1 ≤ sizeLine := szS (by omega)
  obtain ⟨SU, hSU⟩ : ∃ S : Str, ("ABCDEFGH" : Str) = S := ⟨_, rfl⟩
  have hm2 : (65 + k) ∈ SU.cps.toList := by rw [← hSU]; exact of_decide_eq_true hm
  rw [hSU] at is ⊢
  have is : dIn false (.str (tx [65 + k])) (.str SU) = some (.bl true) := is
  simp -implicitDefEqProofs only [W_ret, ap_AndV, ap_Test, ap_Bin, ap_Bi, ap_bCons, ap_bNil, lsGet_cons, lsGet_nil, ap_lVar, ap_lFix, ap_C, List.cons_append, List.nil_append, List.getElem?_cons_zero, Option.bind_some, Option.map_some, rd_imm, get_slot, get_fix, len_str, len_tx, List.length_cons, List.length_nil, z, if_true, is]
  simp -implicitDefEqProofs
  exact Array.mem_toList_iff.mp hm2
end Law
namespace Law
open PySem L2 Q
theorem rord_res (n : Nat) (o : Ord) (hn : n < 1000000) (ho : Ook o) : res n_read_order_row m_read_order_row [.imm (.int (n : Nat)), .imm (.lst (sW (ordW n o)))] [] = some (ordD o, []) := by
  refine res_eq ?_
  unfold m_read_order_row
  have e1 : ("order" : Str) = tx OR := rfl
  rw [e1]
  obtain ⟨X, hX⟩ : ∃ X, X = sW (ordW n o) := ⟨_, rfl⟩
  obtain ⟨Y, hY⟩ : ∃ Y, Y = sW (stW o.st) := ⟨_, rfl⟩
  have e : X = .str (tx OR) :: .str (tx (fg n)) :: .str (tx [65 + o.s]) :: .str (tx [65 + o.g]) :: Y := by rw [hX, hY]; rfl
  have x0 : dIx (.lst X) (.int 0) = some (.str (tx OR)) := by rw [e, Q.ix_lst, atI_0]; rfl
  have x1 : dIx (.lst X) (.int 1) = some (.str (tx (fg n))) := by rw [e, Q.ix_lst, atI_1]; rfl
  have x2 : dIx (.lst X) (.int 2) = some (.str (tx [65 + o.s])) := by rw [e, Q.ix_lst, atI_2]; rfl
  have x3 : dIx (.lst X) (.int 3) = some (.str (tx [65 + o.g])) := by
    rw [e, Q.ix_lst]
    exact atI_cast (.str (tx OR) :: .str (tx (fg n)) :: .str (tx [65 + o.s]) :: .str (tx [65 + o.g]) :: Y) 3
  have s4 : dSlL (.lst X) (some 4) none = some (.lst Y) := by
    show some (D.lst (cutD X (some ((4 : Nat) : Int)) none)) = _
    rw [cutD_from, e]; rfl
  have hl : ¬ ((X.length : Nat) : Int) < 4 := by rw [e]; simp only [List.length_cons]; omega
  have rn := rn_num hn
  have rs := ros_res o.st ho.st
  have ls := let_res ho.s
  have lg := let_res ho.g
  rw [← hX]
  rw [← hY] at rs
  unfold ordD
  obtain ⟨SD, hSD⟩ : ∃ SD, SD = D.tup (stDs o.st) := ⟨_, rfl⟩
  rw [← hSD] at rs
  have T1 : mOr (mTest (mBin dLt (lFix (mBi dLen (bCons (lVar 1) bNil))) (lFix (mC (.int 4))))) (mOr (mTest (mBin (dEqv true) (lFix (mBin dIx (lVar 1) (lFix (mC (.int 0))))) (lFix (mC (.str (tx OR)))))) (mTest (mBin (dEqv true) (lFix (mCallV n_read_number 1 m_read_number (cImm (mBin dIx (lVar 1) (lFix (mC (.int 1)))) cNil))) (lVar 0)))) [.imm (.int (n : Nat)), .imm (.lst X), .un, .un, .un, .un] = some (false, [.imm (.int (n : Nat)), .imm (.lst X), .un, .un, .un, .un]) := by
    simp -implicitDefEqProofs [hl, x0, x1, V_eq, rn, -Q.ix_lst]
  have A2 : mCallV n_read_order_state 1 m_read_order_state (cImm (mSl dSlL (lVar 1) (oSome (mC (.int 4))) oNone) cNil) [.imm (.int (n : Nat)), .imm (.lst X), .un, .un, .un, .un] = some (SD, [.imm (.int (n : Nat)), .imm (.lst X), .un, .un, .un, .un]) := by
    simp -implicitDefEqProofs [V_eq, s4, rs]
  have hne : SD.isNon = false := by rw [hSD]; rfl
  obtain ⟨d1, d2, d3, hd⟩ : ∃ d1 d2 d3, stDs o.st = [d1, d2, d3] := by cases o.st <;> exact ⟨_, _, _, rfl⟩
  rw [hd] at hSD ⊢
  have T3 : mOr (mNot (mTru (lFix (mCallV n_is_letter 1 m_is_letter (cImm (mBin dIx (lVar 1) (lFix (mC (.int 2)))) cNil))))) (mOr (mNot (mTru (lFix (mCallV n_is_letter 1 m_is_letter (cImm (mBin dIx (lVar 1) (lFix (mC (.int 3)))) cNil))))) (mTest (mBin (dIs false) (lVar 2) (lFix (mC .non))))) [.imm (.int (n : Nat)), .imm (.lst X), .imm SD, .un, .un, .un] = some (false, [.imm (.int (n : Nat)), .imm (.lst X), .imm SD, .un, .un, .un]) := by
    simp -implicitDefEqProofs [V_eq, x2, x3, ls, lg, hne, -Q.ix_lst]
  rw [W_seq, W_if]
  show Gt (mOr _ _ [.imm (.int (n : Nat)), .imm (.lst X), .un, .un, .un, .un]) _
  rw [T1, Gt_some, if_neg (by simp), W_next, sqK_nx, W_seq, W_asg, A2, Gt_some]
  refine ⟨by show 2 < 6; decide, ?_⟩
  rw [sqK_nx, W_seq, W_if]
  show Gt (mOr _ _ [.imm (.int (n : Nat)), .imm (.lst X), .imm SD, .un, .un, .un]) _
  rw [T3, Gt_some, if_neg (by simp), W_next, sqK_nx, W_seq, Q_asgG]
  have v2 : mVar 2 [.imm (.int (n : Nat)), .imm (.lst X), .imm SD, .un, .un, .un] = some (SD, [.imm (.int (n : Nat)), .imm (.lst X), .imm SD, .un, .un, .un]) := rfl
  have G : gT 3 (gsCons (gN 3) (gsCons (gN 4) (gsCons (gN 5) gsNil))) SD [.imm (.int (n : Nat)), .imm (.lst X), .imm SD, .un, .un, .un] = some [.imm (.int (n : Nat)), .imm (.lst X), .imm SD, .imm d1, .imm d2, .imm d3] := by
    rw [hSD]; simp -implicitDefEqProofs
  rw [v2, Gt_some, G, Gt_some, sqK_nx, W_ret]
  have t5 := Tup_ok (a := aCons (mBin dIx (lVar 1) (lFix (mC (.int 2)))) (aCons (mBin dIx (lVar 1) (lFix (mC (.int 3)))) (aCons (mVar 3) (aCons (mVar 4) (aCons (mVar 5) aNil))))) (env := [.imm (.int (n : Nat)), .imm (.lst X), .imm SD, .imm d1, .imm d2, .imm d3]) (e := [.imm (.int (n : Nat)), .imm (.lst X), .imm SD, .imm d1, .imm d2, .imm d3]) (xs := [.str (tx [65 + o.s]), .str (tx [65 + o.g]), d1, d2, d3]) (by
    simp -implicitDefEqProofs [x2, x3, -Q.ix_lst]) (by simp)
  rw [t5, Gt_some, RtA_ret, ioAt_nil, Gt_some]
  exact ⟨rfl, rfl⟩
/-- an order's line is no robot's -/
theorem rob_none (k n : Nat) (o : Ord) : res n_read_robot m_read_robot [.imm (.int (k : Nat)), .imm (.lst (sW (ordW n o)))] [] = some (.non, []) := by
  refine res_eq ?_
  unfold m_read_robot
  have e1 : ("robot" : Str) = tx RB := rfl
  rw [e1]
  obtain ⟨X, hX⟩ : ∃ X, X = sW (ordW n o) := ⟨_, rfl⟩
  have e : X = .str (tx OR) :: .str (tx (fg n)) :: .str (tx [65 + o.s]) :: .str (tx [65 + o.g]) :: sW (stW o.st) := by rw [hX]; rfl
  have x0 : dIx (.lst X) (.int 0) = some (.str (tx OR)) := by rw [e, Q.ix_lst, atI_0]; rfl
  have hl : ¬ ((X.length : Nat) : Int) < 4 := by rw [e]; simp only [List.length_cons]; omega
  have hne : ¬ tx OR = tx RB := fun z => by have := tx_inj.mp z; revert this; decide
  rw [← hX]
  have T1 : mOr (mTest (mBin dLt (lFix (mBi dLen (bCons (lVar 1) bNil))) (lFix (mC (.int 4))))) (mOr (mTest (mBin (dEqv true) (lFix (mBin dIx (lVar 1) (lFix (mC (.int 0))))) (lFix (mC (.str (tx RB)))))) (mTest (mBin (dEqv true) (lFix (mCallV n_read_number 1 m_read_number (cImm (mBin dIx (lVar 1) (lFix (mC (.int 1)))) cNil))) (lVar 0)))) [.imm (.int (k : Nat)), .imm (.lst X), .un, .un, .un, .un, .un] = some (true, [.imm (.int (k : Nat)), .imm (.lst X), .un, .un, .un, .un, .un]) := by
    simp -implicitDefEqProofs only [ap_Or, ap_Test, ap_Bin, ap_Bi, ap_bCons, ap_bNil, lsGet_cons, lsGet_nil, ap_lVar, ap_lFix, ap_C, List.getElem?_cons_succ, List.getElem?_cons_zero, Option.bind_some, Option.map_some, rd_imm, get_slot, get_fix, len_lst, cmp_int, hl, decide_false, Bool.false_eq_true, if_false, x0, eqv_str, hne, if_true, Bool.not_false]
  rw [W_seq, W_if]
  show Gt (mOr _ _ [.imm (.int (k : Nat)), .imm (.lst X), .un, .un, .un, .un, .un]) _
  rw [T1, Gt_some, if_pos rfl, W_ret, ap_C, Gt_some, sqK_ret, RtA_ret, ioAt_nil, Gt_some]
  exact ⟨rfl, rfl⟩
/-- a robot's line is no order's -/
theorem ord_none (k n : Nat) (r : Rob) : res n_read_order_row m_read_order_row [.imm (.int (k : Nat)), .imm (.lst (sW (robW n r)))] [] = some (.non, []) := by
  refine res_eq ?_
  unfold m_read_order_row
  have e1 : ("order" : Str) = tx OR := rfl
  rw [e1]
  obtain ⟨X, hX⟩ : ∃ X, X = sW (robW n r) := ⟨_, rfl⟩
  have e : X = .str (tx RB) :: .str (tx (fg n)) :: .str (tx (plW r.place)) :: .str (tx (brW r.broken)) :: sW (eW r.er) := by rw [hX]; rfl
  have x0 : dIx (.lst X) (.int 0) = some (.str (tx RB)) := by rw [e, Q.ix_lst, atI_0]; rfl
  have hl : ¬ ((X.length : Nat) : Int) < 4 := by rw [e]; simp only [List.length_cons]; omega
  have hne : ¬ tx RB = tx OR := fun z => by have := tx_inj.mp z; revert this; decide
  rw [← hX]
  have T1 : mOr (mTest (mBin dLt (lFix (mBi dLen (bCons (lVar 1) bNil))) (lFix (mC (.int 4))))) (mOr (mTest (mBin (dEqv true) (lFix (mBin dIx (lVar 1) (lFix (mC (.int 0))))) (lFix (mC (.str (tx OR)))))) (mTest (mBin (dEqv true) (lFix (mCallV n_read_number 1 m_read_number (cImm (mBin dIx (lVar 1) (lFix (mC (.int 1)))) cNil))) (lVar 0)))) [.imm (.int (k : Nat)), .imm (.lst X), .un, .un, .un, .un] = some (true, [.imm (.int (k : Nat)), .imm (.lst X), .un, .un, .un, .un]) := by
    simp -implicitDefEqProofs only [ap_Or, ap_Test, ap_Bin, ap_Bi, ap_bCons, ap_bNil, lsGet_cons, lsGet_nil, ap_lVar, ap_lFix, ap_C, List.getElem?_cons_succ, List.getElem?_cons_zero, Option.bind_some, Option.map_some, rd_imm, get_slot, get_fix, len_lst, cmp_int, hl, decide_false, Bool.false_eq_true, if_false, x0, eqv_str, hne, if_true, Bool.not_false]
  rw [W_seq, W_if]
  show Gt (mOr _ _ [.imm (.int (k : Nat)), .imm (.lst X), .un, .un, .un, .un]) _
  rw [T1, Gt_some, if_pos rfl, W_ret, ap_C, Gt_some, sqK_ret, RtA_ret, ioAt_nil, Gt_some]
  exact ⟨rfl, rfl⟩
end Law
namespace Law
open PySem L2 Q
/-! ## Robots and orders: written -/
theorem W_ext {i : Nat} {e : ME} {env env' : En} {xs ys zs : List D} {Q : Fl → Prop} (h0 : ownL env i = some ys) (h1 : e env = some (.lst zs, env')) (h2 : ownL env' i = some xs) (hl : xs.length + zs.length ≤ 10000) (k : Q (.nx (putS env' i (.lst (xs ++ zs))))) : W (mExt i e) env Q := by
  refine ⟨_, ?_, k⟩
  have : xs.length + zs.length ≤ sizeLine := szS hl
  unfold mExt
  rw [h0]; simp only [Option.bind_some]
  rw [h1]; simp only [Option.bind_some]
  rw [h2]; simp only [Option.bind_some]
  rw [if_pos this]
theorem join_c {c : Nat} {ws : List (List Nat)} (h1 : ws.length ≤ 200) (h2 : ∀ w ∈ ws, w.length ≤ 2000) : fJoin ⟨#[c]⟩ (.lst (sW ws)) = some (.str (tx (joinC c ws))) := by
  have j1 : ∀ S : List (List Nat), strsD (sW S) = some (S.map tx) := fun S => by
    induction S with
    | nil => rfl
    | cons c l ih => simp only [List.map_cons, strsD, ih, Option.map_some]
  have j2 : ∀ S : List (List Nat), (∀ r ∈ S, r.length ≤ 2000) → ((S.map tx).map (·.length)).sum ≤ S.length * 2000 := fun S hS => by
    induction S with
    | nil => simp
    | cons q S ih =>
      have a := ih fun r hr => hS r (List.mem_cons_of_mem _ hr)
      have b := hS q (by simp)
      simp only [List.map_cons, List.sum_cons, List.length_cons, len_tx] at a ⊢
      omega
  have z : (⟨#[c]⟩ : Str).length = 1 := rfl
  unfold fJoin
  have h := j2 ws h2
  simp only [D.items?, Option.bind_some, j1]
  rw [if_pos (by rw [z, List.length_map]; omega), join_tx]
theorem plW_len {p : Option (Nat × Nat)} (hp : ∀ q, p = some q → Pok q) : (plW p).length ≤ 13 := by
  cases p with
  | none => decide
  | some q =>
    obtain ⟨h1, h2⟩ := hp q rfl
    have l1 := (fg_len (n := q.1) (by omega)).2
    have l2 := (fg_len (n := q.2) (by omega)).2
    unfold plW
    simp
    omega
theorem brW_len (b : Bool) : (brW b).length ≤ 13 := by cases b <;> decide
theorem ldW_len (b : Bool) : (ldW b).length ≤ 13 := by cases b <;> decide
theorem shW_len {b : Bool} {o : Option Nat} (h : ∀ n, o = some n → n < 1000000) : (shW b o).length ≤ 2 ∧ ∀ w ∈ shW b o, w.length ≤ 13 := by
  cases o with
  | none => exact ⟨Nat.zero_le 2, fun w hw => by cases hw⟩
  | some n =>
    refine ⟨Nat.le_refl 2, fun w hw => ?_⟩
    have := (fg_len (h n rfl)).2
    rcases List.mem_cons.mp hw with rfl | hw
    · exact ldW_len b
    · have : w = fg n := by simpa using hw
      rw [this]; omega
theorem wayW_len {ps : List (Nat × Nat)} (h : ∀ p ∈ ps, Pok p) (hl : ps.length ≤ 100) : (wayW ps).length ≤ 101 ∧ ∀ w ∈ wayW ps, w.length ≤ 13 := by
  unfold wayW
  cases ps with
  | nil => exact ⟨by decide, fun w hw => by cases hw⟩
  | cons p ps =>
    refine ⟨by simp at hl ⊢; omega, fun w hw => ?_⟩
    rcases List.mem_cons.mp hw with rfl | hw
    · decide
    · obtain ⟨q, hq, rfl⟩ := List.mem_map.mp hw
      exact plW_len fun r e => by cases e; exact h q hq
theorem robW_len {n : Nat} {r : Rob} (hn : n < 1000000) (hr : Rok r) : (robW n r).length ≤ 110 ∧ ∀ w ∈ robW n r, w.length ≤ 13 := by
  obtain ⟨a1, a2⟩ := shW_len (b := r.er.loaded) hr.e.o
  obtain ⟨b1, b2⟩ := wayW_len hr.e.w hr.e.n
  have hf := (fg_len hn).2
  unfold robW eW
  refine ⟨by simp only [List.length_append, List.length_cons, List.length_nil]; omega, fun w hw => ?_⟩
  rcases List.mem_append.mp hw with hw | hw
  · simp only [List.mem_cons, List.not_mem_nil, or_false] at hw
    rcases hw with rfl | rfl | rfl | rfl
    · decide
    · omega
    · exact plW_len hr.p
    · exact brW_len _
  · rcases List.mem_append.mp hw with hw | hw
    · exact a2 w hw
    · exact b2 w hw
theorem lst4 {a b c d : ME} {env : En} {x y z w : D} (h1 : a env = some (x, env)) (h2 : b env = some (y, env)) (h3 : c env = some (z, env)) (h4 : d env = some (w, env)) : mLst (aCons a (aCons b (aCons c (aCons d aNil)))) env = some (.lst [x, y, z, w], env) := Lst_ok (by simp [h1, h2, h3, h4]) (by simp)
theorem wrob_res (n : Nat) (r : Rob) (hn : n < 1000000) (hr : Rok r) : res n_write_robot m_write_robot [.imm (.int (n : Nat)), .imm (robD r)] [] = some (.str (tx (joinC 32 (robW n r))), []) := by
  refine res_eq ?_
  unfold m_write_robot
  have e1 : ("robot" : Str) = tx RB := rfl
  have e3 : ("broken" : Str) = tx BR := rfl
  have e4 : ("runs" : Str) = tx RU := rfl
  have e5 : ("loaded" : Str) = tx LD := rfl
  have e6 : ("empty" : Str) = tx EM := rfl
  have e7 : ("way" : Str) = tx WY := rfl
  have e8 : (" " : Str) = ⟨#[32]⟩ := rfl
  rw [e1, e3, e4, e5, e6, e7, e8]
  obtain ⟨l1, l2⟩ := robW_len hn hr
  have jn := join_c (c := 32) (ws := robW n r) (by omega) (fun w hw => by have := l2 w hw; omega)
  obtain ⟨JS, hJS⟩ : ∃ JS, JS = tx (joinC 32 (robW n r)) := ⟨_, rfl⟩
  rw [← hJS] at jn ⊢
  have wp := wp_res r.place hr.p
  have hwo := hr.e.o
  have hww := hr.e.w
  have hwn := hr.e.n
  have sn := str_n hn
  have hrW : robW n r = [RB, fg n, plW r.place, brW r.broken] ++ (shW r.er.loaded r.er.order ++ wayW r.er.way) := rfl
  rw [hrW] at jn
  unfold robD
  obtain ⟨pl, br, ⟨o, ld, w⟩⟩ := r
  dsimp only at *
  obtain ⟨RD, hRD⟩ : ∃ RD, RD = D.tup [placeD pl, .bl br, orD o, .bl ld, .lst (w.map pD)] := ⟨_, rfl⟩
  rw [← hRD]
  generalize hPD : placeD pl = PD at *
  obtain ⟨OD, hOD⟩ : ∃ OD, OD = orD o := ⟨_, rfl⟩
  obtain ⟨WD, hWD⟩ : ∃ WD, WD = w.map pD := ⟨_, rfl⟩
  rw [← hOD, ← hWD] at hRD
  have v1 : mVar 1 [.imm (.int (n : Nat)), .imm RD, .un, .un, .un, .un, .un, .un, .un] = some (RD, [.imm (.int (n : Nat)), .imm RD, .un, .un, .un, .un, .un, .un, .un]) := rfl
  have G : gT 5 (gsCons (gN 2) (gsCons (gN 3) (gsCons (gN 4) (gsCons (gN 5) (gsCons (gN 6) gsNil))))) RD [.imm (.int (n : Nat)), .imm RD, .un, .un, .un, .un, .un, .un, .un] = some [.imm (.int (n : Nat)), .imm RD, .imm PD, .imm (.bl br), .imm OD, .imm (.bl ld), .imm (.lst WD), .un, .un] := by
    rw [hRD]; simp -implicitDefEqProofs
  show W _ [.imm (.int (n : Nat)), .imm RD, .un, .un, .un, .un, .un, .un, .un] _
  rw [W_seq, Q_asgG, v1, Gt_some, G, Gt_some, sqK_nx, W_seq, W_asgF]
  generalize hE : ([.imm (.int (n : Nat)), .imm RD, .imm PD, .imm (.bl br), .imm OD, .imm (.bl ld), .imm (.lst WD)] : En) = E0
  have E0at : ∀ (i : Nat) (s t : Sl), i < 7 → (E0 ++ [s, t])[i]? = E0[i]? := fun i s t hi => by
    rw [List.getElem?_append_left (by rw [← hE]; exact hi)]
  have hE0 : E0 ++ [.un, .un] = [.imm (.int (n : Nat)), .imm RD, .imm PD, .imm (.bl br), .imm OD, .imm (.bl ld), .imm (.lst WD), .un, .un] := by rw [← hE]; rfl
  have L : mLst (aCons (mC (.str (tx RB))) (aCons (mBi dStr (bCons (lVar 0) bNil)) (aCons (mCallV n_write_place 1 m_write_place (cImm (mVar 2) cNil)) (aCons (mIf (mTru (lVar 3)) (mC (.str (tx BR))) (mC (.str (tx RU)))) aNil)))) [.imm (.int (n : Nat)), .imm RD, .imm PD, .imm (.bl br), .imm OD, .imm (.bl ld), .imm (.lst WD), .un, .un] = some (.lst (sW [RB, fg n, plW pl, brW br]), [.imm (.int (n : Nat)), .imm RD, .imm PD, .imm (.bl br), .imm OD, .imm (.bl ld), .imm (.lst WD), .un, .un]) := by
    refine lst4 rfl ?_ ?_ ?_
    · simp -implicitDefEqProofs [sn]
    · simp -implicitDefEqProofs [V_eq, wp]
    · unfold mIf
      cases br <;> rfl
  rw [L, Gt_some]
  refine ⟨by show 7 < 9; decide, ?_⟩
  rw [sqK_nx]
  show W _ [.imm (.int (n : Nat)), .imm RD, .imm PD, .imm (.bl br), .imm OD, .imm (.bl ld), .imm (.lst WD), .own (.lst (sW [RB, fg n, plW pl, brW br])), .un] _
  -- the end, once the way is told
  have fin : ∀ (ws : List (List Nat)), ws = [RB, fg n, plW pl, brW br] ++ (shW ld o ++ wayW w) → ∀ s8 : Sl, W (mRet (mJoin (mC (.str ⟨#[32]⟩)) (lVar 7))) [.imm (.int (n : Nat)), .imm RD, .imm PD, .imm (.bl br), .imm OD, .imm (.bl ld), .imm (.lst WD), .own (.lst (sW ws)), s8] (RtA [] fun _ d ds => d = .str JS ∧ ds = []) := by
    rintro ws rfl s8
    generalize sW ([RB, fg n, plW pl, brW br] ++ (shW ld o ++ wayW w)) = X at jn
    simp -implicitDefEqProofs only [W_ret, ap_Join, ap_C, ap_lVar, List.getElem?_cons_succ, List.getElem?_cons_zero, Option.bind_some, Option.map_some, rd_own, get_slot, jn, Gt_some, RtA_ret, ioAt_nil]
    exact ⟨trivial, trivial⟩
  have way : ∀ (ws : List (List Nat)), ws = [RB, fg n, plW pl, brW br] ++ shW ld o → W (mSeq (mIfS (mTru (lVar 6))
      (mExt 7 (mBin dCat (lFix (mLst (aCons (mC (.str (tx WY))) aNil))) (lFix (mLc [8] (iAny (mVar 6)) (gN 8) mYes (mCallV n_write_place 1 m_write_place (cImm (mVar 8) cNil))))))
      mNext)
      (mRet (mJoin (mC (.str ⟨#[32]⟩)) (lVar 7)))) [.imm (.int (n : Nat)), .imm RD, .imm PD, .imm (.bl br), .imm OD, .imm (.bl ld), .imm (.lst WD), .own (.lst (sW ws)), .un] (RtA [] fun _ d ds => d = .str JS ∧ ds = []) := by
    intro ws hws
    have hwl : ws.length ≤ 10 := by
      have := (shW_len (b := ld) hwo).1
      rw [hws, List.length_append]
      show 4 + _ ≤ 10
      omega
    obtain ⟨X, hX⟩ : ∃ X, X = sW ws := ⟨_, rfl⟩
    have hXl : X.length ≤ 10 := by rw [hX, List.length_map]; exact hwl
    rw [← hX, W_seq, W_if]
    cases hw : w with
    | nil =>
      have hWD0 : WD = [] := by rw [hWD, hw]; rfl
      have T : mTru (lVar 6) [.imm (.int (n : Nat)), .imm RD, .imm PD, .imm (.bl br), .imm OD, .imm (.bl ld), .imm (.lst WD), .own (.lst X), .un] = some (false, [.imm (.int (n : Nat)), .imm RD, .imm PD, .imm (.bl br), .imm OD, .imm (.bl ld), .imm (.lst WD), .own (.lst X), .un]) := by
        rw [hWD0]; rfl
      rw [T, Gt_some, if_neg (by simp), W_next, sqK_nx, hX]
      exact fin ws (by rw [hws, hw]; simp [wayW]) .un
    | cons p w' =>
      have T : mTru (lVar 6) [.imm (.int (n : Nat)), .imm RD, .imm PD, .imm (.bl br), .imm OD, .imm (.bl ld), .imm (.lst WD), .own (.lst X), .un] = some (true, [.imm (.int (n : Nat)), .imm RD, .imm PD, .imm (.bl br), .imm OD, .imm (.bl ld), .imm (.lst WD), .own (.lst X), .un]) := by
        rw [hWD, hw]; rfl
      obtain ⟨acc, e2, h1, ⟨t, rfl⟩, h3⟩ := lc_ok (vs := [8]) (mi := iAny (mVar 6)) (gf := gN 8) (mt := mYes) (me := mCallV n_write_place 1 m_write_place (cImm (mVar 8) cNil)) (env := [.imm (.int (n : Nat)), .imm RD, .imm PD, .imm (.bl br), .imm OD, .imm (.bl ld), .imm (.lst WD), .own (.lst X), .un]) (e0 := [.imm (.int (n : Nat)), .imm RD, .imm PD, .imm (.bl br), .imm OD, .imm (.bl ld), .imm (.lst WD), .own (.lst X), .un]) (ds := w.map pD) (by rw [← hWD]; simp -implicitDefEqProofs) rfl
        (by rw [List.length_map]; omega) (fun e => ∃ t, e = [.imm (.int (n : Nat)), .imm RD, .imm PD, .imm (.bl br), .imm OD, .imm (.bl ld), .imm (.lst WD), .own (.lst X), t]) (fun k acc => acc = sW ((w.take k).map fun p => plW (some p))) ⟨_, rfl⟩ (by simp) (by
          rintro i d e acc hd ⟨t, rfl⟩ rfl
          rw [List.getElem?_map] at hd
          obtain ⟨q, hq, rfl⟩ := Option.map_eq_some_iff.mp hd
          have wq : res n_write_place m_write_place [.imm (pD q)] [] = some (.str (tx (plW (some q))), []) := wp_res (some q) fun r e => by cases e; exact hww q (List.mem_of_getElem? hq)
          refine ⟨[.imm (.int (n : Nat)), .imm RD, .imm PD, .imm (.bl br), .imm OD, .imm (.bl ld), .imm (.lst WD), .own (.lst X), .imm (pD q)], true, [.imm (.int (n : Nat)), .imm RD, .imm PD, .imm (.bl br), .imm OD, .imm (.bl ld), .imm (.lst WD), .own (.lst X), .imm (pD q)], by simp -implicitDefEqProofs [wipeE], rfl, fun _ => ⟨.str (tx (plW (some q))), [.imm (.int (n : Nat)), .imm RD, .imm PD, .imm (.bl br), .imm OD, .imm (.bl ld), .imm (.lst WD), .own (.lst X), .imm (pD q)], ?_, ⟨_, rfl⟩, ?_⟩, fun z => by cases z⟩
          · generalize pD q = qd at wq ⊢
            generalize tx (plW (some q)) = qt at wq ⊢
            simp -implicitDefEqProofs [V_eq, wq]
          · rw [List.take_add_one, hq]; simp)
      rw [List.length_map, List.take_length] at h3
      have hbk : backE [.imm (.int (n : Nat)), .imm RD, .imm PD, .imm (.bl br), .imm OD, .imm (.bl ld), .imm (.lst WD), .own (.lst X), .un] (wipeE [.imm (.int (n : Nat)), .imm RD, .imm PD, .imm (.bl br), .imm OD, .imm (.bl ld), .imm (.lst WD), .own (.lst X), t] [8]) [8] = [.imm (.int (n : Nat)), .imm RD, .imm PD, .imm (.bl br), .imm OD, .imm (.bl ld), .imm (.lst WD), .own (.lst X), .un] := by simp -implicitDefEqProofs [backE, wipeE]
      rw [hbk, h3] at h1
      obtain ⟨Z, hZ⟩ : ∃ Z, Z = sW (w.map fun p => plW (some p)) := ⟨_, rfl⟩
      have hZl : Z.length ≤ 100 := by rw [hZ, List.length_map, List.length_map]; exact hwn
      rw [← hZ] at h1
      have zc : 1 + Z.length ≤ sizeLine := szS (by omega)
      have C : mBin dCat (lFix (mLst (aCons (mC (.str (tx WY))) aNil))) (lFix (mLc [8] (iAny (mVar 6)) (gN 8) mYes (mCallV n_write_place 1 m_write_place (cImm (mVar 8) cNil)))) [.imm (.int (n : Nat)), .imm RD, .imm PD, .imm (.bl br), .imm OD, .imm (.bl ld), .imm (.lst WD), .own (.lst X), .un] = some (.lst (.str (tx WY) :: Z), [.imm (.int (n : Nat)), .imm RD, .imm PD, .imm (.bl br), .imm OD, .imm (.bl ld), .imm (.lst WD), .own (.lst X), .un]) := by
        simp -implicitDefEqProofs only [ap_Bin, ap_lFix, Lst_1, ap_C, Option.map_some, Option.bind_some, h1, get_fix, cat_lst, List.length_cons, List.length_nil, zc, if_true, Nat.zero_add, List.cons_append, List.nil_append]
      rw [T, Gt_some, if_pos rfl]
      refine W_ext (ys := X) (xs := X) rfl C rfl (by simp; omega) ?_
      rw [sqK_nx]
      show W _ [.imm (.int (n : Nat)), .imm RD, .imm PD, .imm (.bl br), .imm OD, .imm (.bl ld), .imm (.lst WD), .own (.lst (X ++ .str (tx WY) :: Z)), .un] _
      have hXZ : X ++ .str (tx WY) :: Z = sW (ws ++ wayW w) := by rw [hX, hZ, hw]; unfold wayW; simp
      rw [hXZ]
      exact fin (ws ++ wayW w) (by rw [hws, List.append_assoc]) .un
  rw [W_seq, W_if]
  cases ho : o with
  | none =>
    have T : mTest (mBin (dIs true) (lVar 4) (lFix (mC .non))) [.imm (.int (n : Nat)), .imm RD, .imm PD, .imm (.bl br), .imm OD, .imm (.bl ld), .imm (.lst WD), .own (.lst (sW [RB, fg n, plW pl, brW br])), .un] = some (false, [.imm (.int (n : Nat)), .imm RD, .imm PD, .imm (.bl br), .imm OD, .imm (.bl ld), .imm (.lst WD), .own (.lst (sW [RB, fg n, plW pl, brW br])), .un]) := by
      rw [hOD, ho]; rfl
    rw [T, Gt_some, if_neg (by simp), W_next, sqK_nx]
    exact way [RB, fg n, plW pl, brW br] (by rw [ho]; simp [shW])
  | some m =>
    have hm := hwo m ho
    have sm := str_n hm
    have T : mTest (mBin (dIs true) (lVar 4) (lFix (mC .non))) [.imm (.int (n : Nat)), .imm RD, .imm PD, .imm (.bl br), .imm OD, .imm (.bl ld), .imm (.lst WD), .own (.lst (sW [RB, fg n, plW pl, brW br])), .un] = some (true, [.imm (.int (n : Nat)), .imm RD, .imm PD, .imm (.bl br), .imm OD, .imm (.bl ld), .imm (.lst WD), .own (.lst (sW [RB, fg n, plW pl, brW br])), .un]) := by
      rw [hOD, ho]; rfl
    have hOm : OD = .int (m : Nat) := by rw [hOD, ho]; rfl
    have C : mLst (aCons (mIf (mTru (lVar 5)) (mC (.str (tx LD))) (mC (.str (tx EM)))) (aCons (mBi dStr (bCons (lVar 4) bNil)) aNil)) [.imm (.int (n : Nat)), .imm RD, .imm PD, .imm (.bl br), .imm OD, .imm (.bl ld), .imm (.lst WD), .own (.lst (sW [RB, fg n, plW pl, brW br])), .un] = some (.lst (sW (shW ld o)), [.imm (.int (n : Nat)), .imm RD, .imm PD, .imm (.bl br), .imm OD, .imm (.bl ld), .imm (.lst WD), .own (.lst (sW [RB, fg n, plW pl, brW br])), .un]) := by
      rw [hOm, ho, Lst_2]
      generalize sW [RB, fg n, plW pl, brW br] = X
      unfold mIf
      cases ld <;> simp -implicitDefEqProofs [sm] <;> rfl
    have hsl := (shW_len (b := ld) hwo).1
    rw [T, Gt_some, if_pos rfl]
    refine W_ext (ys := sW [RB, fg n, plW pl, brW br]) (xs := sW [RB, fg n, plW pl, brW br]) rfl C rfl (by rw [List.length_map, List.length_map]; show 4 + _ ≤ 10000; omega) ?_
    rw [sqK_nx]
    have := way ([RB, fg n, plW pl, brW br] ++ shW ld o) rfl
    have es : sW ([RB, fg n, plW pl, brW br] ++ shW ld o) = sW [RB, fg n, plW pl, brW br] ++ sW (shW ld o) := by simp
    rw [es] at this
    exact this
end Law
namespace Law
open PySem L2 Q
/-! ## Orders and reports: written -/
theorem ordW_len {n : Nat} {o : Ord} (hn : n < 1000000) (ho : Ook o) : (ordW n o).length ≤ 6 ∧ ∀ w ∈ ordW n o, w.length ≤ 13 := by
  have hf := (fg_len hn).2
  have hs : (stW o.st).length ≤ 2 ∧ ∀ w ∈ stW o.st, w.length ≤ 13 := by
    have hst := ho.st
    cases h : o.st with
    | done => exact ⟨by decide, fun w hw => by cases hw with | head => decide | tail _ h => cases h⟩
    | waits => exact ⟨by decide, fun w hw => by cases hw with | head => decide | tail _ h => cases h⟩
    | has m b =>
      rw [h] at hst
      have hm := (fg_len (show m < 1000000 from hst)).2
      refine ⟨Nat.le_refl 2, fun w hw => ?_⟩
      rcases List.mem_cons.mp hw with rfl | hw
      · exact ldW_len b
      · have : w = fg m := by simpa using hw
        rw [this]; omega
  obtain ⟨h1, h2⟩ := hs
  unfold ordW
  refine ⟨by simp only [List.length_append, List.length_cons, List.length_nil]; omega, fun w hw => ?_⟩
  rcases List.mem_append.mp hw with hw | hw
  · simp only [List.mem_cons, List.not_mem_nil, or_false] at hw
    rcases hw with rfl | rfl | rfl | rfl
    · decide
    · omega
    · exact Nat.le_of_ble_eq_true rfl
    · exact Nat.le_of_ble_eq_true rfl
  · exact h2 w hw
theorem word_res (n : Nat) (o : Ord) (hn : n < 1000000) (ho : Ook o) : res n_write_order m_write_order [.imm (.int (n : Nat)), .imm (ordD o)] [] = some (.str (tx (joinC 32 (ordW n o))), []) := by
  refine res_eq ?_
  unfold m_write_order
  have e1 : ("order" : Str) = tx OR := rfl
  have e3 : ("done" : Str) = tx DN := rfl
  have e4 : ("waits" : Str) = tx WT := rfl
  have e5 : ("loaded" : Str) = tx LD := rfl
  have e6 : ("empty" : Str) = tx EM := rfl
  have e8 : (" " : Str) = ⟨#[32]⟩ := rfl
  rw [e1, e3, e4, e5, e6, e8]
  obtain ⟨l1, l2⟩ := ordW_len hn ho
  have jn := join_c (c := 32) (ws := ordW n o) (by omega) (fun w hw => by have := l2 w hw; omega)
  obtain ⟨JS, hJS⟩ : ∃ JS, JS = tx (joinC 32 (ordW n o)) := ⟨_, rfl⟩
  rw [← hJS] at jn ⊢
  have hst := ho.st
  have sn := str_n hn
  have hoW : ordW n o = [OR, fg n, [65 + o.s], [65 + o.g]] ++ stW o.st := rfl
  rw [hoW] at jn
  unfold ordD
  obtain ⟨os, og, st⟩ := o
  dsimp only at *
  obtain ⟨SA, hSA⟩ : ∃ SA, SA = D.str (tx [65 + os]) := ⟨_, rfl⟩
  obtain ⟨SB, hSB⟩ : ∃ SB, SB = D.str (tx [65 + og]) := ⟨_, rfl⟩
  rw [← hSA, ← hSB]
  obtain ⟨d1, d2, d3, hd⟩ : ∃ d1 d2 d3, stDs st = [d1, d2, d3] := by cases st <;> exact ⟨_, _, _, rfl⟩
  obtain ⟨RD, hRD⟩ : ∃ RD, RD = D.tup ([SA, SB] ++ stDs st) := ⟨_, rfl⟩
  rw [← hRD]
  have hRD1 := hRD
  rw [hd] at hRD
  have v1 : mVar 1 [.imm (.int (n : Nat)), .imm RD, .un, .un, .un, .un, .un, .un] = some (RD, [.imm (.int (n : Nat)), .imm RD, .un, .un, .un, .un, .un, .un]) := rfl
  have G : gT 5 (gsCons (gN 2) (gsCons (gN 3) (gsCons (gN 4) (gsCons (gN 5) (gsCons (gN 6) gsNil))))) RD [.imm (.int (n : Nat)), .imm RD, .un, .un, .un, .un, .un, .un] = some [.imm (.int (n : Nat)), .imm RD, .imm SA, .imm SB, .imm d1, .imm d2, .imm d3, .un] := by
    rw [hRD]; simp -implicitDefEqProofs
  show W _ [.imm (.int (n : Nat)), .imm RD, .un, .un, .un, .un, .un, .un] _
  rw [W_seq, Q_asgG, v1, Gt_some, G, Gt_some, sqK_nx, W_seq, W_asgF]
  have L : mLst (aCons (mC (.str (tx OR))) (aCons (mBi dStr (bCons (lVar 0) bNil)) (aCons (mVar 2) (aCons (mVar 3) aNil)))) [.imm (.int (n : Nat)), .imm RD, .imm SA, .imm SB, .imm d1, .imm d2, .imm d3, .un] = some (.lst [.str (tx OR), .str (tx (fg n)), SA, SB], [.imm (.int (n : Nat)), .imm RD, .imm SA, .imm SB, .imm d1, .imm d2, .imm d3, .un]) := by
    refine lst4 rfl ?_ rfl rfl
    simp -implicitDefEqProofs [sn]
  rw [L, Gt_some]
  refine ⟨by show 7 < 8; decide, ?_⟩
  rw [sqK_nx]
  have hX0 : [.str (tx OR), .str (tx (fg n)), SA, SB] = sW [OR, fg n, [65 + os], [65 + og]] := by rw [hSA, hSB]; rfl
  rw [hX0]
  obtain ⟨X, hX⟩ : ∃ X, X = sW [OR, fg n, [65 + os], [65 + og]] := ⟨_, rfl⟩
  have hXl : X.length = 4 := by rw [hX]; rfl
  rw [← hX]
  show W _ [.imm (.int (n : Nat)), .imm RD, .imm SA, .imm SB, .imm d1, .imm d2, .imm d3, .own (.lst X)] _
  have hjX : fJoin ⟨#[32]⟩ (.lst (X ++ sW (stW st))) = some (.str JS) := by
    have : X ++ sW (stW st) = sW ([OR, fg n, [65 + os], [65 + og]] ++ stW st) := by rw [hX]; exact (List.map_append).symm
    rw [this]; exact jn
  -- the end, once the state is told
  have fin : ∀ Y : List D, fJoin ⟨#[32]⟩ (.lst Y) = some (.str JS) → W (mRet (mJoin (mC (.str ⟨#[32]⟩)) (lVar 7))) [.imm (.int (n : Nat)), .imm RD, .imm SA, .imm SB, .imm d1, .imm d2, .imm d3, .own (.lst Y)] (RtA [] fun _ d ds => d = .str JS ∧ ds = []) := by
    intro Y jn
    simp -implicitDefEqProofs only [W_ret, ap_Join, ap_C, ap_lVar, List.getElem?_cons_succ, List.getElem?_cons_zero, Option.bind_some, Option.map_some, rd_own, get_slot, jn, Gt_some, RtA_ret, ioAt_nil]
    exact ⟨trivial, trivial⟩
  have z4 : 4 < sizeLine := szL (by omega)
  rw [W_seq, W_if]
  cases st with
  | done =>
    have hd1 : d1 = .bl true := by injection hd with a _; exact a.symm
    have T : mTru (lVar 4) [.imm (.int (n : Nat)), .imm RD, .imm SA, .imm SB, .imm d1, .imm d2, .imm d3, .own (.lst X)] = some (true, [.imm (.int (n : Nat)), .imm RD, .imm SA, .imm SB, .imm d1, .imm d2, .imm d3, .own (.lst X)]) := by
      rw [hd1]; rfl
    have A : ownL [.imm (.int (n : Nat)), .imm RD, .imm SA, .imm SB, .imm d1, .imm d2, .imm d3, .own (.lst X)] 7 = some X := rfl
    rw [T, Gt_some, if_pos rfl, W_app, A, Gt_some, ap_C, Gt_some, A, Gt_some]
    refine ⟨by rw [hXl]; exact z4, ?_⟩
    rw [sqK_nx]
    exact fin _ hjX
  | waits =>
    have hd1 : d1 = .bl false := by injection hd with a _; exact a.symm
    have hd2 : d2 = .non := by injection hd with _ b; injection b with a _; exact a.symm
    have T : mTru (lVar 4) [.imm (.int (n : Nat)), .imm RD, .imm SA, .imm SB, .imm d1, .imm d2, .imm d3, .own (.lst X)] = some (false, [.imm (.int (n : Nat)), .imm RD, .imm SA, .imm SB, .imm d1, .imm d2, .imm d3, .own (.lst X)]) := by
      rw [hd1]; rfl
    have T2 : mTest (mBin (dIs false) (lVar 5) (lFix (mC .non))) [.imm (.int (n : Nat)), .imm RD, .imm SA, .imm SB, .imm d1, .imm d2, .imm d3, .own (.lst X)] = some (true, [.imm (.int (n : Nat)), .imm RD, .imm SA, .imm SB, .imm d1, .imm d2, .imm d3, .own (.lst X)]) := by
      rw [hd2]; rfl
    have A : ownL [.imm (.int (n : Nat)), .imm RD, .imm SA, .imm SB, .imm d1, .imm d2, .imm d3, .own (.lst X)] 7 = some X := rfl
    rw [T, Gt_some, if_neg (by simp), W_if, T2, Gt_some, if_pos rfl, W_app, A, Gt_some, ap_C, Gt_some, A, Gt_some]
    refine ⟨by rw [hXl]; exact z4, ?_⟩
    rw [sqK_nx]
    exact fin _ hjX
  | has m b =>
    have hd1 : d1 = .bl false := by injection hd with a _; exact a.symm
    have hd2 : d2 = .int (m : Nat) := by injection hd with _ b; injection b with a _; exact a.symm
    have hd3 : d3 = .bl b := by injection hd with _ b; injection b with _ c; injection c with a _; exact a.symm
    have sm := str_n (show m < 1000000 from hst)
    have T : mTru (lVar 4) [.imm (.int (n : Nat)), .imm RD, .imm SA, .imm SB, .imm d1, .imm d2, .imm d3, .own (.lst X)] = some (false, [.imm (.int (n : Nat)), .imm RD, .imm SA, .imm SB, .imm d1, .imm d2, .imm d3, .own (.lst X)]) := by
      rw [hd1]; rfl
    have T2 : mTest (mBin (dIs false) (lVar 5) (lFix (mC .non))) [.imm (.int (n : Nat)), .imm RD, .imm SA, .imm SB, .imm d1, .imm d2, .imm d3, .own (.lst X)] = some (false, [.imm (.int (n : Nat)), .imm RD, .imm SA, .imm SB, .imm d1, .imm d2, .imm d3, .own (.lst X)]) := by
      rw [hd2]; rfl
    have C : mLst (aCons (mIf (mTru (lVar 6)) (mC (.str (tx LD))) (mC (.str (tx EM)))) (aCons (mBi dStr (bCons (lVar 5) bNil)) aNil)) [.imm (.int (n : Nat)), .imm RD, .imm SA, .imm SB, .imm d1, .imm d2, .imm d3, .own (.lst X)] = some (.lst (sW (stW (.has m b))), [.imm (.int (n : Nat)), .imm RD, .imm SA, .imm SB, .imm d1, .imm d2, .imm d3, .own (.lst X)]) := by
      rw [hd2, hd3, Lst_2]
      unfold mIf
      cases b <;> simp -implicitDefEqProofs [sm] <;> rfl
    rw [T, Gt_some, if_neg (by simp), W_if, T2, Gt_some, if_neg (by simp)]
    refine W_ext (ys := X) (xs := X) rfl C rfl (by rw [hXl]; show 4 + 2 ≤ 10000; omega) ?_
    rw [sqK_nx]
    exact fin _ hjX
end Law
namespace Law
open PySem L2 Q
/-! ## A report written -/
theorem joinC_len (c m : Nat) : ∀ L : List (List Nat), (∀ w ∈ L, w.length ≤ m) → (joinC c L).length ≤ L.length * (m + 1)
  | [], _ => Nat.zero_le _
  | [a], h => by
    have := h a (by simp)
    show a.length ≤ 1 * (m + 1)
    omega
  | a :: b :: r, h => by
    have h1 := h a (by simp)
    have h2 := joinC_len c m (b :: r) fun w hw => h w (List.mem_cons_of_mem _ hw)
    show (a ++ c :: joinC c (b :: r)).length ≤ _
    simp only [List.length_append, List.length_cons] at h2 ⊢
    have e : (r.length + 1 + 1) * (m + 1) = (r.length + 1) * (m + 1) + (m + 1) := by rw [Nat.add_mul (r.length + 1) 1]; omega
    omega
theorem rows_lc {A : Type} {N : List Str} {mf : MS} {f : A → D} {g : Nat → A → List Nat} {L : List A} (hL : L.length ≤ 100) (hcall : ∀ i a, L[i]? = some a → res N mf [.imm (.int (i : Nat)), .imm (f a)] [] = some (.str (tx (g i a)), [])) {i : Nat} {s0 s1 s2 : Sl}
    (hI : iEn (aCons (mVar i) aNil) [s0, s1, s2, .un, .un] = some (enumD 0 (L.map f), [s0, s1, s2, .un, .un])) :
    mLc [3, 4] (iEn (aCons (mVar i) aNil)) (gT 2 (gsCons (gN 3) (gsCons (gN 4) gsNil))) mYes (mCallV N 2 mf (cImm (mVar 3) (cImm (mVar 4) cNil))) [s0, s1, s2, .un, .un] = some (.lst (sW (L.mapIdx g)), [s0, s1, s2, .un, .un]) := by
  obtain ⟨acc, e2, h1, ⟨s, t, rfl⟩, h3⟩ := lc_ok (vs := [3, 4]) (mi := iEn (aCons (mVar i) aNil)) (gf := gT 2 (gsCons (gN 3) (gsCons (gN 4) gsNil))) (mt := mYes) (me := mCallV N 2 mf (cImm (mVar 3) (cImm (mVar 4) cNil))) (env := [s0, s1, s2, .un, .un]) (e0 := [s0, s1, s2, .un, .un]) (ds := enumD 0 (L.map f)) hI rfl
    (by rw [enumD_length, List.length_map]; omega) (fun e => ∃ s t, e = [s0, s1, s2, s, t]) (fun k acc => acc = sW ((L.mapIdx g).take k)) ⟨_, _, rfl⟩ (by simp) (by
      rintro j d e acc hd ⟨s, t, rfl⟩ rfl
      obtain ⟨d', hd', rfl⟩ := enumD_get _ _ _ _ hd
      rw [List.getElem?_map] at hd'
      obtain ⟨a, ha, rfl⟩ := Option.map_eq_some_iff.mp hd'
      have hc := hcall j a ha
      rw [Nat.zero_add]
      refine ⟨[s0, s1, s2, .imm (.int (j : Nat)), .imm (f a)], true, [s0, s1, s2, .imm (.int (j : Nat)), .imm (f a)], by simp -implicitDefEqProofs [wipeE], rfl, fun _ => ⟨.str (tx (g j a)), [s0, s1, s2, .imm (.int (j : Nat)), .imm (f a)], ?_, ⟨_, _, rfl⟩, ?_⟩, fun z => by cases z⟩
      · generalize f a = fa at hc ⊢
        generalize tx (g j a) = qt at hc ⊢
        simp -implicitDefEqProofs [V_eq, hc]
      · rw [List.take_add_one, List.getElem?_mapIdx, ha]; simp)
  rw [enumD_length, List.length_map, ← List.length_mapIdx (f := g), List.take_length] at h3
  have hbk : backE [s0, s1, s2, .un, .un] (wipeE [s0, s1, s2, s, t] [3, 4]) [3, 4] = [s0, s1, s2, .un, .un] := by simp -implicitDefEqProofs [backE, wipeE]
  rw [h1, hbk, h3]
def robL (R : List Rob) : List (List Nat) := R.mapIdx fun i r => joinC 32 (robW i r)
def ordL (O : List Ord) : List (List Nat) := O.mapIdx fun i o => joinC 32 (ordW i o)
def repT (R : List Rob) (O : List Ord) : Str := tx (joinC 10 (robL R ++ ordL O))
structure Rep (R : List Rob) (O : List Ord) : Prop where
  rl : R.length ≤ 10
  ol : O.length ≤ 10
  r : ∀ x ∈ R, Rok x
  o : ∀ x ∈ O, Ook x
theorem repL_len {R : List Rob} {O : List Ord} (h : Rep R O) : ∀ w ∈ robL R ++ ordL O, w.length ≤ 2000 := by
  intro w hw
  have h1 := h.rl
  have h2 := h.ol
  rcases List.mem_append.mp hw with hw | hw
  · obtain ⟨i, hi, rfl⟩ := List.mem_mapIdx.mp hw
    obtain ⟨a, b⟩ := robW_len (n := i) (r := R[i]) (by omega) (h.r _ (List.getElem_mem hi))
    have := joinC_len 32 13 _ b
    omega
  · obtain ⟨i, hi, rfl⟩ := List.mem_mapIdx.mp hw
    obtain ⟨a, b⟩ := ordW_len (n := i) (o := O[i]) (by omega) (h.o _ (List.getElem_mem hi))
    have := joinC_len 32 13 _ b
    omega
theorem wrep_res {R : List Rob} {O : List Ord} (h : Rep R O) : res n_write_report m_write_report [.imm (.lst (R.map robD)), .imm (.lst (O.map ordD))] [] = some (.str (repT R O), []) := by
  refine res_eq ?_
  unfold m_write_report
  have e8 : ("\n" : Str) = ⟨#[10]⟩ := rfl
  rw [e8]
  have h1 := h.rl
  have h2 := h.ol
  have l1 : (robL R).length = R.length := List.length_mapIdx
  have l2 : (ordL O).length = O.length := List.length_mapIdx
  have jn := join_c (c := 10) (ws := robL R ++ ordL O) (by rw [List.length_append]; omega) (repL_len h)
  have hT : repT R O = tx (joinC 10 (robL R ++ ordL O)) := rfl
  rw [← hT] at jn
  generalize repT R O = JS at jn ⊢
  obtain ⟨RD, hRD⟩ : ∃ RD, RD = R.map robD := ⟨_, rfl⟩
  obtain ⟨OD, hOD⟩ : ∃ OD, OD = O.map ordD := ⟨_, rfl⟩
  rw [← hRD, ← hOD]
  have A1 := rows_lc (N := n_write_robot) (mf := m_write_robot) (f := robD) (g := fun i r => joinC 32 (robW i r)) (L := R) (by omega) (fun i a ha => wrob_res i a (by have := (List.getElem?_eq_some_iff.mp ha).1; omega) (h.r a (List.mem_of_getElem? ha))) (i := 0) (s0 := .imm (.lst RD)) (s1 := .imm (.lst OD)) (s2 := .un) (by rw [← hRD]; rfl)
  have A2 : ∀ X : List D, mLc [3, 4] (iEn (aCons (mVar 1) aNil)) (gT 2 (gsCons (gN 3) (gsCons (gN 4) gsNil))) mYes (mCallV n_write_order 2 m_write_order (cImm (mVar 3) (cImm (mVar 4) cNil))) [.imm (.lst RD), .imm (.lst OD), .own (.lst X), .un, .un] = some (.lst (sW (ordL O)), [.imm (.lst RD), .imm (.lst OD), .own (.lst X), .un, .un]) := fun X =>
    rows_lc (N := n_write_order) (mf := m_write_order) (f := ordD) (g := fun i r => joinC 32 (ordW i r)) (L := O) (by omega) (fun i a ha => word_res i a (by have := (List.getElem?_eq_some_iff.mp ha).1; omega) (h.o a (List.mem_of_getElem? ha))) (i := 1) (s0 := .imm (.lst RD)) (s1 := .imm (.lst OD)) (s2 := .own (.lst X)) (by rw [← hOD]; rfl)
  change mLc _ _ _ _ _ _ = some (.lst (sW (robL R)), _) at A1
  show W _ [.imm (.lst RD), .imm (.lst OD), .un, .un, .un] _
  rw [W_seq, W_asgF, A1, Gt_some]
  refine ⟨by show 2 < 5; decide, ?_⟩
  rw [sqK_nx]
  have hA : sW (robL R ++ ordL O) = sW (robL R) ++ sW (ordL O) := List.map_append
  rw [hA] at jn
  have zl : (sW (robL R)).length + (sW (ordL O)).length ≤ sizeLine := szS (by rw [List.length_map, List.length_map]; omega)
  obtain ⟨X, hX⟩ : ∃ X, X = sW (robL R) := ⟨_, rfl⟩
  obtain ⟨Y, hY⟩ : ∃ Y, Y = sW (ordL O) := ⟨_, rfl⟩
  have A3 := A2 X
  rw [← hX, ← hY] at jn zl
  rw [← hY] at A3
  rw [← hX]
  show W _ [.imm (.lst RD), .imm (.lst OD), .own (.lst X), .un, .un] _
  simp -implicitDefEqProofs only [W_ret, ap_Join, ap_C, ap_Bin, ap_lVar, ap_lFix, List.getElem?_cons_succ, List.getElem?_cons_zero, Option.bind_some, Option.map_some, rd_own, get_slot, get_fix, A3, cat_lst, zl, if_true, jn, Gt_some, RtA_ret, ioAt_nil]
  exact ⟨trivial, trivial⟩
end Law
namespace Law
open PySem L2 Q
/-! ## A report read -/
theorem sz50 {n : Nat} (h : n ≤ 50000) : n ≤ sizeLine := Nat.le_trans h (by decide)
abbrev Hi (w : List Nat) : Prop := ∀ c ∈ w, 33 ≤ c
theorem fg_hi (n : Nat) : Hi (fg n) := fun c hc => by have := fg_dig hc; omega
theorem plW_hi (p : Option (Nat × Nat)) : Hi (plW p) := by
  cases p with
  | none => decide
  | some q =>
    intro c hc
    unfold plW at hc
    rcases List.mem_append.mp hc with h | h
    · exact fg_hi _ c h
    · rcases List.mem_cons.mp h with rfl | h
      · decide
      · exact fg_hi _ c h
theorem ldW_hi (b : Bool) : Hi (ldW b) := by cases b <;> decide
theorem brW_hi (b : Bool) : Hi (brW b) := by cases b <;> decide
theorem robW_hi (n : Nat) (r : Rob) : ∀ w ∈ robW n r, Hi w := by
  intro w hw
  unfold robW eW at hw
  rcases List.mem_append.mp hw with hw | hw
  · simp only [List.mem_cons, List.not_mem_nil, or_false] at hw
    rcases hw with rfl | rfl | rfl | rfl
    · decide
    · exact fg_hi n
    · exact plW_hi _
    · exact brW_hi _
  · rcases List.mem_append.mp hw with hw | hw
    · cases ho : r.er.order with
      | none => rw [ho] at hw; cases hw
      | some m =>
        rw [ho] at hw
        rcases List.mem_cons.mp hw with rfl | hw
        · exact ldW_hi _
        · have : w = fg m := by simpa using hw
          rw [this]; exact fg_hi m
    · unfold wayW at hw
      cases hps : r.er.way with
      | nil => rw [hps] at hw; cases hw
      | cons p ps =>
        rw [hps] at hw
        rcases List.mem_cons.mp hw with rfl | hw
        · decide
        · obtain ⟨q, hq, rfl⟩ := List.mem_map.mp hw
          exact plW_hi _
theorem ordW_hi (n : Nat) (o : Ord) : ∀ w ∈ ordW n o, Hi w := by
  intro w hw
  unfold ordW at hw
  rcases List.mem_append.mp hw with hw | hw
  · simp only [List.mem_cons, List.not_mem_nil, or_false] at hw
    rcases hw with rfl | rfl | rfl | rfl
    · decide
    · exact fg_hi n
    · intro c hc
      have : c = 65 + o.s := by simpa using hc
      omega
    · intro c hc
      have : c = 65 + o.g := by simpa using hc
      omega
  · cases h : o.st with
    | done => rw [h] at hw; have : w = DN := by simpa [stW] using hw
              rw [this]; decide
    | waits => rw [h] at hw; have : w = WT := by simpa [stW] using hw
               rw [this]; decide
    | has m b =>
      rw [h] at hw
      rcases List.mem_cons.mp hw with rfl | hw
      · exact ldW_hi b
      · have : w = fg m := by simpa using hw
        rw [this]; exact fg_hi m
theorem joinC_hi : ∀ L : List (List Nat), (∀ w ∈ L, Hi w) → ∀ c ∈ joinC 32 L, 32 ≤ c
  | [], _, c, hc => by cases hc
  | [a], h, c, hc => by
    have hc : c ∈ a := hc
    have := h a (by simp) c hc
    omega
  | a :: b :: r, h, c, hc => by
    have hc : c ∈ a ++ 32 :: joinC 32 (b :: r) := hc
    rcases List.mem_append.mp hc with hc | hc
    · have := h a (by simp) c hc
      omega
    · rcases List.mem_cons.mp hc with rfl | hc
      · omega
      · exact joinC_hi (b :: r) (fun w hw => h w (List.mem_cons_of_mem _ hw)) c hc
theorem spl {c : Nat} (hc : c < 256) {ws : List (List Nat)} (h0 : ws ≠ []) (h1 : ∀ a ∈ ws, c ∉ a) (hl : (joinC c ws).length ≤ 49000) : fSplit (tx (joinC c ws)) ⟨#[c]⟩ = some (.lst (sW ws)) := by
  have sp := split_tx (tx (joinC c ws)) hc
  rw [cs_tx, split_join c ws h0 h1] at sp
  have z : (tx (joinC c ws)).length + 2 ≤ sizeLine := sz50 (by rw [len_tx]; omega)
  have z1 : ((⟨#[c]⟩ : Str).length == 0) = false := rfl
  unfold fSplit
  rw [if_pos ⟨z1, z⟩, sp, List.map_map]
  rfl
theorem joinC_ne {c a : Nat} {w : List Nat} {L : List (List Nat)} : joinC c ((a :: w) :: L) ≠ [] := by
  cases L with
  | nil => exact fun h => by cases h
  | cons b r => exact fun h => by cases h
end Law
namespace Law
open PySem L2 Q
/-- what is done with a line -/
def rdB : MS :=
    (mSeq (mAsg 6 (mM1 fSplit (mVar 5) (mC (.str " "))))
    (mSeq (mAsg 7 (mIf (mTru (lVar 2)) (mC .non) (mCallV n_read_robot 2 m_read_robot (cImm (mBi dLen (bCons (lVar 1) bNil)) (cBor 6 cNil)))))
    (mSeq (mAsg 8 (mCallV n_read_order_row 2 m_read_order_row (cImm (mBi dLen (bCons (lVar 2) bNil)) (cBor 6 cNil))))
    (mIfS (mTest (mBin (dIs true) (lVar 7) (lFix (mC .non))))
    (mApp 1 (mVar 7))
    (mIfS (mTest (mBin (dIs true) (lVar 8) (lFix (mC .non))))
    (mApp 2 (mVar 8))
    mNever)))))
theorem rd_step {T X U L : D} {s6 s7 s8 : Sl} {A B : List D} {z : Str} {V7 V8 : D} {Q : Fl → Prop} (hsp : fSplit z ⟨#[32]⟩ = some L)
    (h7 : ∀ s7 s8 : Sl, mIf (mTru (lVar 2)) (mC .non) (mCallV n_read_robot 2 m_read_robot (cImm (mBi dLen (bCons (lVar 1) bNil)) (cBor 6 cNil))) [.imm T, .own (.lst A), .own (.lst B), .imm X, .imm U, .imm (.str z), .imm L, s7, s8] = some (V7, [.imm T, .own (.lst A), .own (.lst B), .imm X, .imm U, .imm (.str z), .imm L, s7, s8]))
    (h8 : ∀ s7 s8 : Sl, mCallV n_read_order_row 2 m_read_order_row (cImm (mBi dLen (bCons (lVar 2) bNil)) (cBor 6 cNil)) [.imm T, .own (.lst A), .own (.lst B), .imm X, .imm U, .imm (.str z), .imm L, s7, s8] = some (V8, [.imm T, .own (.lst A), .own (.lst B), .imm X, .imm U, .imm (.str z), .imm L, s7, s8]))
    (hA : A.length < 10000) (hB : B.length < 10000)
    (hq : (V7.isNon = false ∧ Q (.nx [.imm T, .own (.lst (A ++ [V7])), .own (.lst B), .imm X, .imm U, .imm (.str z), .imm L, .imm V7, .imm V8])) ∨ (V7.isNon = true ∧ V8.isNon = false ∧ Q (.nx [.imm T, .own (.lst A), .own (.lst (B ++ [V8])), .imm X, .imm U, .imm (.str z), .imm L, .imm V7, .imm V8]))) :
    W rdB [.imm T, .own (.lst A), .own (.lst B), .imm X, .imm U, .imm (.str z), s6, s7, s8] Q := by
  have e8 : (" " : Str) = ⟨#[32]⟩ := rfl
  have S : mM1 fSplit (mVar 5) (mC (.str ⟨#[32]⟩)) [.imm T, .own (.lst A), .own (.lst B), .imm X, .imm U, .imm (.str z), s6, s7, s8] = some (L, [.imm T, .own (.lst A), .own (.lst B), .imm X, .imm U, .imm (.str z), s6, s7, s8]) := by
    show (fSplit z ⟨#[32]⟩).map _ = _
    rw [hsp]; rfl
  unfold rdB
  rw [e8, W_seq, W_asg, S, Gt_some]
  refine ⟨by show 6 < 9; decide, ?_⟩
  rw [sqK_nx, W_seq, W_asg]
  show Gt (mIf _ _ _ [.imm T, .own (.lst A), .own (.lst B), .imm X, .imm U, .imm (.str z), .imm L, s7, s8]) _
  rw [h7, Gt_some]
  refine ⟨by show 7 < 9; decide, ?_⟩
  rw [sqK_nx, W_seq, W_asg]
  show Gt (mCallV _ _ _ _ [.imm T, .own (.lst A), .own (.lst B), .imm X, .imm U, .imm (.str z), .imm L, .imm V7, s8]) _
  rw [h8, Gt_some]
  refine ⟨by show 8 < 9; decide, ?_⟩
  rw [sqK_nx, W_if]
  show Gt (mTest _ [.imm T, .own (.lst A), .own (.lst B), .imm X, .imm U, .imm (.str z), .imm L, .imm V7, .imm V8]) _
  have zA : A.length < sizeLine := szL hA
  have zB : B.length < sizeLine := szL hB
  rcases hq with ⟨h, k⟩ | ⟨h, h', k⟩
  · have T1 : mTest (mBin (dIs true) (lVar 7) (lFix (mC .non))) [.imm T, .own (.lst A), .own (.lst B), .imm X, .imm U, .imm (.str z), .imm L, .imm V7, .imm V8] = some (true, [.imm T, .own (.lst A), .own (.lst B), .imm X, .imm U, .imm (.str z), .imm L, .imm V7, .imm V8]) := by
      simp -implicitDefEqProofs [h]
    have A1 : ownL [.imm T, .own (.lst A), .own (.lst B), .imm X, .imm U, .imm (.str z), .imm L, .imm V7, .imm V8] 1 = some A := rfl
    have v : mVar 7 [.imm T, .own (.lst A), .own (.lst B), .imm X, .imm U, .imm (.str z), .imm L, .imm V7, .imm V8] = some (V7, [.imm T, .own (.lst A), .own (.lst B), .imm X, .imm U, .imm (.str z), .imm L, .imm V7, .imm V8]) := rfl
    rw [T1, Gt_some, if_pos rfl, W_app, A1, Gt_some, v, Gt_some, A1, Gt_some]
    exact ⟨zA, k⟩
  · have T1 : mTest (mBin (dIs true) (lVar 7) (lFix (mC .non))) [.imm T, .own (.lst A), .own (.lst B), .imm X, .imm U, .imm (.str z), .imm L, .imm V7, .imm V8] = some (false, [.imm T, .own (.lst A), .own (.lst B), .imm X, .imm U, .imm (.str z), .imm L, .imm V7, .imm V8]) := by
      simp -implicitDefEqProofs [h]
    have T2 : mTest (mBin (dIs true) (lVar 8) (lFix (mC .non))) [.imm T, .own (.lst A), .own (.lst B), .imm X, .imm U, .imm (.str z), .imm L, .imm V7, .imm V8] = some (true, [.imm T, .own (.lst A), .own (.lst B), .imm X, .imm U, .imm (.str z), .imm L, .imm V7, .imm V8]) := by
      simp -implicitDefEqProofs [h']
    have A1 : ownL [.imm T, .own (.lst A), .own (.lst B), .imm X, .imm U, .imm (.str z), .imm L, .imm V7, .imm V8] 2 = some B := rfl
    have v : mVar 8 [.imm T, .own (.lst A), .own (.lst B), .imm X, .imm U, .imm (.str z), .imm L, .imm V7, .imm V8] = some (V8, [.imm T, .own (.lst A), .own (.lst B), .imm X, .imm U, .imm (.str z), .imm L, .imm V7, .imm V8]) := rfl
    rw [T1, Gt_some, if_neg (by simp), W_if, T2, Gt_some, if_pos rfl, W_app, A1, Gt_some, v, Gt_some, A1, Gt_some]
    exact ⟨zB, k⟩
theorem rd_rob {T X U : D} {s6 s7 s8 : Sl} (A : List D) (r : Rob) (hA : A.length ≤ 10) (hr : Rok r) {Q : Fl → Prop}
    (hq : ∀ s6 s7 s8 : Sl, Q (.nx [.imm T, .own (.lst (A ++ [robD r])), .own (.lst []), .imm X, .imm U, .imm (.str (tx (joinC 32 (robW A.length r)))), s6, s7, s8])) :
    W rdB [.imm T, .own (.lst A), .own (.lst []), .imm X, .imm U, .imm (.str (tx (joinC 32 (robW A.length r)))), s6, s7, s8] Q := by
  have hn : A.length < 1000000 := by omega
  obtain ⟨l1, l2⟩ := robW_len hn hr
  have jl := joinC_len 32 13 _ l2
  have sp := spl (c := 32) (by decide) (ws := robW A.length r) (fun h => by cases h) (fun a ha h => by have := robW_hi _ _ a ha 32 h; omega) (by omega)
  have rr := rrob_res A.length r hn hr
  have on : res n_read_order_row m_read_order_row [.imm (.int 0), .imm (.lst (sW (robW A.length r)))] [] = some (.non, []) := ord_none 0 A.length r
  generalize tx (joinC 32 (robW A.length r)) = z at sp hq ⊢
  generalize sW (robW A.length r) = L at sp rr on
  have hne : (robD r).isNon = false := rfl
  generalize robD r = V at rr hne hq
  refine rd_step (V7 := V) (V8 := .non) sp ?_ ?_ (by omega) (by decide) (.inl ⟨hne, hq _ _ _⟩)
  · intro s7 s8
    have t : mTru (lVar 2) [.imm T, .own (.lst A), .own (.lst []), .imm X, .imm U, .imm (.str z), .imm (.lst L), s7, s8] = some (false, [.imm T, .own (.lst A), .own (.lst []), .imm X, .imm U, .imm (.str z), .imm (.lst L), s7, s8]) := rfl
    have c : mCallV n_read_robot 2 m_read_robot (cImm (mBi dLen (bCons (lVar 1) bNil)) (cBor 6 cNil)) [.imm T, .own (.lst A), .own (.lst []), .imm X, .imm U, .imm (.str z), .imm (.lst L), s7, s8] = some (V, [.imm T, .own (.lst A), .own (.lst []), .imm X, .imm U, .imm (.str z), .imm (.lst L), s7, s8]) := by
      simp -implicitDefEqProofs [V_eq, rr]
    unfold mIf
    rw [t, Option.bind_some, if_neg (by simp)]
    exact c
  · intro s7 s8
    simp -implicitDefEqProofs [V_eq, on]
theorem rd_ord {T X U : D} {s6 s7 s8 : Sl} (A B : List D) (o : Ord) (hA : A.length ≤ 10) (hB : B.length ≤ 10) (ho : Ook o) {Q : Fl → Prop}
    (hq : ∀ s6 s7 s8 : Sl, Q (.nx [.imm T, .own (.lst A), .own (.lst (B ++ [ordD o])), .imm X, .imm U, .imm (.str (tx (joinC 32 (ordW B.length o)))), s6, s7, s8])) :
    W rdB [.imm T, .own (.lst A), .own (.lst B), .imm X, .imm U, .imm (.str (tx (joinC 32 (ordW B.length o)))), s6, s7, s8] Q := by
  have hn : B.length < 1000000 := by omega
  obtain ⟨l1, l2⟩ := ordW_len hn ho
  have jl := joinC_len 32 13 _ l2
  have sp := spl (c := 32) (by decide) (ws := ordW B.length o) (fun h => by cases h) (fun a ha h => by have := ordW_hi _ _ a ha 32 h; omega) (by omega)
  have rr := rob_none A.length B.length o
  have on := rord_res B.length o hn ho
  generalize tx (joinC 32 (ordW B.length o)) = z at sp hq ⊢
  generalize sW (ordW B.length o) = L at sp rr on
  have hne : (ordD o).isNon = false := rfl
  generalize ordD o = V at on hne hq
  refine rd_step (V7 := .non) (V8 := V) sp ?_ ?_ (by omega) (by omega) (.inr ⟨rfl, hne, hq _ _ _⟩)
  · intro s7 s8
    unfold mIf
    cases B with
    | nil => 
      have t : mTru (lVar 2) [.imm T, .own (.lst A), .own (.lst []), .imm X, .imm U, .imm (.str z), .imm (.lst L), s7, s8] = some (false, [.imm T, .own (.lst A), .own (.lst []), .imm X, .imm U, .imm (.str z), .imm (.lst L), s7, s8]) := rfl
      have c : mCallV n_read_robot 2 m_read_robot (cImm (mBi dLen (bCons (lVar 1) bNil)) (cBor 6 cNil)) [.imm T, .own (.lst A), .own (.lst []), .imm X, .imm U, .imm (.str z), .imm (.lst L), s7, s8] = some (.non, [.imm T, .own (.lst A), .own (.lst []), .imm X, .imm U, .imm (.str z), .imm (.lst L), s7, s8]) := by
        simp -implicitDefEqProofs [V_eq, rr]
      rw [t, Option.bind_some, if_neg (by simp)]
      exact c
    | cons b B =>
      have t : mTru (lVar 2) [.imm T, .own (.lst A), .own (.lst (b :: B)), .imm X, .imm U, .imm (.str z), .imm (.lst L), s7, s8] = some (true, [.imm T, .own (.lst A), .own (.lst (b :: B)), .imm X, .imm U, .imm (.str z), .imm (.lst L), s7, s8]) := rfl
      rw [t, Option.bind_some, if_pos rfl]
      rfl
  · intro s7 s8
    simp -implicitDefEqProofs [V_eq, on]
theorem rrep_res {R : List Rob} {O : List Ord} (h : Rep R O) : res n_read_report m_read_report [.imm (.str (repT R O))] [] = some (.tup [.lst (R.map robD), .lst (O.map ordD)], []) := by
  refine res_eq ?_
  unfold m_read_report
  have e8 : ("\n" : Str) = ⟨#[10]⟩ := rfl
  have h1 := h.rl
  have h2 := h.ol
  have l1 : (robL R).length = R.length := List.length_mapIdx
  have l2 : (ordL O).length = O.length := List.length_mapIdx
  have ll := repL_len h
  have jl := joinC_len 10 2000 _ ll
  rw [List.length_append, l1, l2] at jl
  obtain ⟨LS, hLS⟩ : ∃ LS, LS = robL R ++ ordL O := ⟨_, rfl⟩
  have hlen : LS.length = R.length + O.length := by rw [hLS, List.length_append, l1, l2]
  obtain ⟨T, hT⟩ : ∃ T, T = repT R O := ⟨_, rfl⟩
  have hT1 : T = tx (joinC 10 LS) := by rw [hT, hLS]; rfl
  rw [← hT]
  rw [← hLS] at jl ll
  have hTl : T.length ≤ 49000 := by
    rw [hT1, len_tx]
    have : (R.length + O.length) * (2000 + 1) ≤ 20 * 2001 := Nat.mul_le_mul (by omega) (Nat.le_refl _)
    omega
  have no10 : ∀ a ∈ LS, 10 ∉ a := by
    intro a ha h10
    rw [hLS] at ha
    rcases List.mem_append.mp ha with ha | ha
    · obtain ⟨i, hi, rfl⟩ := List.mem_mapIdx.mp ha
      have := joinC_hi _ (robW_hi i R[i]) 10 h10
      omega
    · obtain ⟨i, hi, rfl⟩ := List.mem_mapIdx.mp ha
      have := joinC_hi _ (ordW_hi i O[i]) 10 h10
      omega
  have S3 : mIf (mTru (lVar 0)) (mM1 fSplit (mVar 0) (mC (.str "\n"))) (mLst aNil) [.imm (.str T), .own (.lst []), .own (.lst []), .un, .un, .un, .un, .un, .un] = some (.lst (sW LS), [.imm (.str T), .own (.lst []), .own (.lst []), .un, .un, .un, .un, .un, .un]) := by
    have zl : T.length ≤ sizeLine := sz50 (by omega)
    have t : mTru (lVar 0) [.imm (.str T), .own (.lst []), .own (.lst []), .un, .un, .un, .un, .un, .un] = some ((T.length : Int) != 0, [.imm (.str T), .own (.lst []), .own (.lst []), .un, .un, .un, .un, .un, .un]) := by
      show ((if T.length ≤ sizeLine then some ((T.length : Int) != 0) else none : Option Bool)).map _ = _
      rw [if_pos zl]; rfl
    unfold mIf
    rw [t, Option.bind_some]
    cases hls : LS with
    | nil =>
      have : T.length = 0 := by rw [hT1, hls]; rfl
      rw [this]; rfl
    | cons w W =>
      have hw : ∃ c w', w = c :: w' := by
        cases R with
        | nil =>
          cases O with
          | nil => rw [hLS] at hls; cases hls
          | cons o O =>
            rw [hLS] at hls
            have : w = joinC 32 (ordW 0 o) := by
              have q : (robL [] ++ ordL (o :: O)).head? = some (joinC 32 (ordW 0 o)) := by
                unfold robL ordL; rw [List.mapIdx_cons]; rfl
              rw [hls] at q
              injection q
            exact ⟨_, _, this⟩
        | cons r R =>
          rw [hLS] at hls
          have : w = joinC 32 (robW 0 r) := by
            have q : (robL (r :: R) ++ ordL O).head? = some (joinC 32 (robW 0 r)) := by
              unfold robL; rw [List.mapIdx_cons]; rfl
            rw [hls] at q
            injection q
          exact ⟨_, _, this⟩
      obtain ⟨c, w', rfl⟩ := hw
      have hne : joinC 10 LS ≠ [] := by rw [hls]; exact joinC_ne
      have hpos : T.length ≠ 0 := by rw [hT1, len_tx]; exact fun z => hne (List.eq_nil_of_length_eq_zero z)
      have hb : ((T.length : Int) != 0) = true := by
        have : ¬ (T.length : Int) = 0 := by omega
        rw [bne_iff_ne]; exact this
      have sp := spl (c := 10) (by decide) (ws := LS) (by rw [hls]; exact fun z => by cases z) no10 (by rw [hT1, len_tx] at hTl; exact hTl)
      rw [← hT1] at sp
      rw [hb, if_pos rfl, e8]
      show (fSplit T ⟨#[10]⟩).map _ = _
      rw [sp, hls]; rfl
  show W _ [.imm (.str T), .un, .un, .un, .un, .un, .un, .un, .un] _
  have nilL : ∀ env : En, mLst aNil env = some (.lst [], env) := fun env => Lst_ok (by simp) (by simp)
  rw [W_seq, W_asgF, nilL, Gt_some]
  refine ⟨by show 1 < 9; decide, ?_⟩
  rw [sqK_nx, W_seq, W_asgF, nilL, Gt_some]
  refine ⟨by show 2 < 9; decide, ?_⟩
  rw [sqK_nx, W_seq, W_asg]
  show Gt (mIf _ _ _ [.imm (.str T), .own (.lst []), .own (.lst []), .un, .un, .un, .un, .un, .un]) _
  rw [S3, Gt_some]
  refine ⟨by show 3 < 9; decide, ?_⟩
  rw [sqK_nx, W_seq]
  obtain ⟨X, hX⟩ : ∃ X, X = sW LS := ⟨_, rfl⟩
  rw [← hX]
  have hI : iEn (aCons (mVar 3) aNil) [.imm (.str T), .own (.lst []), .own (.lst []), .imm (.lst X), .un, .un, .un, .un, .un] = some (enumD 0 X, [.imm (.str T), .own (.lst []), .own (.lst []), .imm (.lst X), .un, .un, .un, .un, .un]) := rfl
  show W (mForS (iEn (aCons (mVar 3) aNil)) (gT 2 (gsCons (gN 4) (gsCons (gN 5) gsNil))) rdB) [.imm (.str T), .own (.lst []), .own (.lst []), .imm (.lst X), .un, .un, .un, .un, .un] _
  obtain ⟨P, hP⟩ := inv fun (k : Nat) (e : En) => ∃ s4 s5 s6 s7 s8 : Sl, e = [.imm (.str T), .own (.lst ((R.take k).map robD)), .own (.lst ((O.take (k - R.length)).map ordD)), .imm (.lst X), s4, s5, s6, s7, s8]
  refine W_for hI P (by
    have z : 0 - R.length = 0 := Nat.zero_sub _
    rw [hP]
    refine ⟨.un, .un, .un, .un, .un, ?_⟩
    rw [z]; rfl) ?_ ?_
  · intro i d e hd hPi
    rw [hP] at hPi
    obtain ⟨s4, s5, s6, s7, s8, rfl⟩ := hPi
    obtain ⟨d', hd', rfl⟩ := enumD_get _ _ _ _ hd
    rw [hX, List.getElem?_map] at hd'
    obtain ⟨w, hw, rfl⟩ := Option.map_eq_some_iff.mp hd'
    rw [Nat.zero_add]
    obtain ⟨A, hA⟩ : ∃ A, A = (R.take i).map robD := ⟨_, rfl⟩
    obtain ⟨B, hB⟩ : ∃ B, B = (O.take (i - R.length)).map ordD := ⟨_, rfl⟩
    rw [← hA, ← hB]
    refine ⟨[.imm (.str T), .own (.lst A), .own (.lst B), .imm (.lst X), .imm (.int (i : Nat)), .imm (.str (tx w)), s6, s7, s8], by simp -implicitDefEqProofs, ?_⟩
    rw [hLS] at hw
    by_cases hi : i < R.length
    · rw [List.getElem?_append_left (by omega)] at hw
      have hr : R[i]? = some R[i] := List.getElem?_eq_getElem hi
      have hw1 : w = joinC 32 (robW i R[i]) := by
        unfold robL at hw
        rw [List.getElem?_mapIdx, hr] at hw
        injection hw with hw; exact hw.symm
      have hAl : A.length = i := by rw [hA, List.length_map, List.length_take]; omega
      have hB0 : B = [] := by rw [hB, show i - R.length = 0 by omega]; rfl
      have hA1 : A ++ [robD R[i]] = (R.take (i + 1)).map robD := by
        rw [hA, List.take_add_one, hr, List.map_append]; rfl
      rw [hw1, hB0]
      have := rd_rob (T := .str T) (X := .lst X) (U := .int (i : Nat)) (s6 := s6) (s7 := s7) (s8 := s8) A R[i] (by omega) (h.r _ (List.getElem_mem hi)) (Q := lp (P (i + 1)) (sqK (mRet (mTup (aCons (mVar 1) (aCons (mVar 2) aNil)))) (RtA [] fun _ d ds => d = .tup [.lst (R.map robD), .lst (O.map ordD)] ∧ ds = []))) (by
          intro t6 t7 t8
          show P (i + 1) _
          have z : i + 1 - R.length = 0 := by omega
          rw [hP]
          refine ⟨.imm (.int (i : Nat)), .imm (.str (tx (joinC 32 (robW A.length R[i])))), t6, t7, t8, ?_⟩
          rw [← hA1, z]; rfl)
      rw [hAl] at this
      exact this
    · rw [List.getElem?_append_right (by omega), l1] at hw
      have hil : i < LS.length := by
        have := (List.getElem?_eq_some_iff.mp hw).1
        omega
      have hj : i - R.length < O.length := by omega
      have ho : O[i - R.length]? = some O[i - R.length] := List.getElem?_eq_getElem hj
      have hw1 : w = joinC 32 (ordW (i - R.length) O[i - R.length]) := by
        unfold ordL at hw
        rw [List.getElem?_mapIdx, ho] at hw
        injection hw with hw; exact hw.symm
      have hBl : B.length = i - R.length := by rw [hB, List.length_map, List.length_take]; omega
      have hA0 : A = (R.take (i + 1)).map robD := by
        rw [hA, List.take_of_length_le (by omega), List.take_of_length_le (by omega)]
      have hAl : A.length ≤ 10 := by rw [hA, List.length_map, List.length_take]; omega
      have hB1 : B ++ [ordD O[i - R.length]] = (O.take (i + 1 - R.length)).map ordD := by
        rw [hB, show i + 1 - R.length = (i - R.length) + 1 by omega, List.take_add_one, ho, List.map_append]; rfl
      rw [hw1]
      have := rd_ord (T := .str T) (X := .lst X) (U := .int (i : Nat)) (s6 := s6) (s7 := s7) (s8 := s8) A B O[i - R.length] hAl (by omega) (h.o _ (List.getElem_mem hj)) (Q := lp (P (i + 1)) (sqK (mRet (mTup (aCons (mVar 1) (aCons (mVar 2) aNil)))) (RtA [] fun _ d ds => d = .tup [.lst (R.map robD), .lst (O.map ordD)] ∧ ds = []))) (by
          intro t6 t7 t8
          show P (i + 1) _
          rw [hP]
          refine ⟨.imm (.int (i : Nat)), .imm (.str (tx (joinC 32 (ordW B.length O[i - R.length])))), t6, t7, t8, ?_⟩
          rw [← hB1, ← hA0])
      rw [hBl] at this
      exact this
  · intro e he
    rw [hP] at he
    obtain ⟨s4, s5, s6, s7, s8, rfl⟩ := he
    rw [enumD_length, hX, List.length_map, hlen, List.take_of_length_le (show R.length ≤ R.length + O.length by omega), List.take_of_length_le (show O.length ≤ R.length + O.length - R.length by omega)]
    rw [sqK_nx, W_ret]
    generalize R.map robD = A
    generalize O.map ordD = B
    have t2 := Tup_ok (a := aCons (mVar 1) (aCons (mVar 2) aNil)) (env := [.imm (.str T), .own (.lst A), .own (.lst B), .imm (.lst (sW LS)), s4, s5, s6, s7, s8]) (e := [.imm (.str T), .imm (.lst A), .imm (.lst B), .imm (.lst (sW LS)), s4, s5, s6, s7, s8]) (xs := [.lst A, .lst B]) (by simp) (by simp)
    rw [t2, Gt_some, RtA_ret, ioAt_nil, Gt_some]
    exact ⟨rfl, rfl⟩
end Law
namespace Law
open PySem L2 Q
/-! ## The law's robots and orders -/
theorem io_call {N : List Str} {mf : MS} {P : D → Prop} (h : ∀ b, IsBox b → W mf ([.io 0 b] ++ List.replicate (N.length - 1) .un) (RtIo 0 fun md d x => P d ∧ IsBox x)) {env : En} {i : Nat} {b : D} (hb : IsBox b) (hr : env[i]?.bind Sl.own? = some b) :
    ∃ d x, P d ∧ IsBox x ∧ mCallV N 1 mf (cIo i cNil) env = some (d, putS env i x) := by
  obtain ⟨md, d, x, ⟨hp, hx⟩, h3, _⟩ := call_io (N := N) (np := 1) (mf := mf) (a := cIo i cNil) (env := env) (e1 := env) (as := [.io i]) (ss := [.io 0 b]) (i := i) (j := 0)
    (by simp -implicitDefEqProofs [hr]) (by simp -implicitDefEqProofs [iosOf]) (by simp -implicitDefEqProofs [borsOf]) (by simp -implicitDefEqProofs [ioPlaces]) rfl (by simp -implicitDefEqProofs [hr]) (h b hb)
  exact ⟨d, x, hp, hx, h3⟩
theorem place_ok (b : D) (hb : IsBox b) : W m_law_place [.io 0 b] (RtIo 0 fun md d x => (∃ p, Pok p ∧ d = pD p) ∧ IsBox x) := by
  unfold m_law_place
  obtain ⟨v1, x1, a1, a2, a3⟩ := draw_call (env := [.io 0 b]) (i := 0) (a := mC (.int 16)) (many := 16) hb rfl rfl (by omega)
  obtain ⟨v2, x2, b1, b2, b3⟩ := draw_call (env := [.io 0 x1]) (i := 0) (a := mC (.int 16)) (many := 16) a2 rfl rfl (by omega)
  have p1 : putS [.io 0 b] 0 x1 = [.io 0 x1] := rfl
  have p2 : putS [.io 0 x1] 0 x2 = [.io 0 x2] := rfl
  rw [p1] at a3
  rw [p2] at b3
  have t := Tup_ok (a := aCons (mCallV n_law_draw 2 m_law_draw (cIo 0 (cImm (mC (.int 16)) cNil))) (aCons (mCallV n_law_draw 2 m_law_draw (cIo 0 (cImm (mC (.int 16)) cNil))) aNil)) (env := [.io 0 b]) (e := [.io 0 x2]) (xs := [.int v1, .int v2]) (by simp -implicitDefEqProofs [a3, b3]) (by simp)
  rw [W_ret, t, Gt_some]
  exact ⟨x2, rfl, ⟨(v1, v2), ⟨by show v1 < 16; omega, by show v2 < 16; omega⟩, rfl⟩, b2⟩
theorem number_ok (b : D) (hb : IsBox b) : W m_law_number [.io 0 b, .un] (RtIo 0 fun md d x => (∃ n : Nat, n < 1000000 ∧ d = .int n) ∧ IsBox x) := by
  unfold m_law_number
  obtain ⟨v1, x1, a1, a2, a3⟩ := draw_call (env := [.io 0 b, .un]) (i := 0) (a := mC (.int 3)) (many := 3) hb rfl rfl (by omega)
  rw [W_seq, W_asg, a3, Gt_some]
  refine ⟨by show 1 < 2; decide, ?_⟩
  rw [sqK_nx]
  show W _ [.io 0 x1, .imm (.int (v1 : Nat))] _
  have T : ∀ j : Int, mTest (mBin (dEqv false) (lVar 1) (lFix (mC (.int j)))) [.io 0 x1, .imm (.int (v1 : Nat))] = some (decide ((v1 : Int) = j), [.io 0 x1, .imm (.int (v1 : Nat))]) := fun j => by
    by_cases h : (v1 : Int) = j
    · simp -implicitDefEqProofs [h]
    · simp -implicitDefEqProofs [h]
  rw [W_seq, W_if, T, Gt_some]
  by_cases h0 : (v1 : Int) = 0
  · rw [if_pos (by simpa using h0)]
    obtain ⟨v, x, b1, b2, b3⟩ := draw_call (env := [.io 0 x1, .imm (.int (v1 : Nat))]) (i := 0) (a := mC (.int 10)) (many := 10) a2 rfl rfl (by omega)
    rw [W_ret, b3, Gt_some, sqK_ret]
    exact ⟨x, rfl, ⟨v, by omega, rfl⟩, b2⟩
  · rw [if_neg (by simpa using h0), W_next, sqK_nx, W_seq, W_if, T, Gt_some]
    by_cases h1 : (v1 : Int) = 1
    · rw [if_pos (by simpa using h1)]
      obtain ⟨v, x, b1, b2, b3⟩ := draw_call (env := [.io 0 x1, .imm (.int (v1 : Nat))]) (i := 0) (a := mC (.int 1000)) (many := 1000) a2 rfl rfl (by omega)
      obtain ⟨u, y, c1, c2, c3⟩ := draw_call (env := [.io 0 x, .imm (.int (v1 : Nat))]) (i := 0) (a := mC (.int 1000)) (many := 1000) b2 rfl rfl (by omega)
      have p1 : putS [.io 0 x1, .imm (.int (v1 : Nat))] 0 x = [.io 0 x, .imm (.int (v1 : Nat))] := rfl
      have p2 : putS [.io 0 x, .imm (.int (v1 : Nat))] 0 y = [.io 0 y, .imm (.int (v1 : Nat))] := rfl
      rw [p1] at b3
      rw [p2] at c3
      have m : dMul (.int (v : Nat)) (.int 1000) = some (.int ((v : Int) * 1000)) := mul_right (by decide) (by decide)
      have DD : mBin dAdd (lFix (mBin dMul (lFix (mCallV n_law_draw 2 m_law_draw (cIo 0 (cImm (mC (.int 1000)) cNil)))) (lFix (mC (.int 1000))))) (lFix (mCallV n_law_draw 2 m_law_draw (cIo 0 (cImm (mC (.int 1000)) cNil)))) [.io 0 x1, .imm (.int (v1 : Nat))] = some (.int ((v : Int) * 1000 + (u : Int)), [.io 0 y, .imm (.int (v1 : Nat))]) := by
        simp -implicitDefEqProofs [b3, c3, m]
      have e : ((v : Int) * 1000 + (u : Int)) = ((v * 1000 + u : Nat) : Int) := by omega
      rw [W_ret, DD, Gt_some, sqK_ret, e]
      exact ⟨y, rfl, ⟨v * 1000 + u, by omega, rfl⟩, c2⟩
    · rw [if_neg (by simpa using h1), W_next, sqK_nx]
      obtain ⟨v, x, b1, b2, b3⟩ := draw_call (env := [.io 0 x1, .imm (.int (v1 : Nat))]) (i := 0) (a := mC (.int 1000)) (many := 1000) a2 rfl rfl (by omega)
      rw [W_ret, b3, Gt_some]
      exact ⟨x, rfl, ⟨v, by omega, rfl⟩, b2⟩
theorem abL : ∀ n < 8, ("ABCDEFGH" : Str).cps.toList[n]? = some (65 + n) := by decide +kernel
theorem ab_ix {n : Nat} (h : n < 8) : dIx (.str "ABCDEFGH") (.int (n : Nat)) = some (.str (tx [65 + n])) := by
  have h1 := abL n h
  have hlt : n < ("ABCDEFGH" : Str).cps.toList.length := (List.getElem?_eq_some_iff.mp h1).1
  have := ix_str_at (z := "ABCDEFGH") (n := n) (szS (by decide +kernel)) hlt
  rw [List.getElem?_eq_getElem hlt] at h1
  rw [Option.some.inj h1] at this
  exact this
theorem order_ok (b : D) (hb : IsBox b) : W m_law_order [.io 0 b, .un, .un, .un] (RtIo 0 fun md d x => (∃ o, Ook o ∧ d = ordD o) ∧ IsBox x) := by
  unfold m_law_order
  have ab := fun n (h : n < 8) => ab_ix h
  obtain ⟨AB, hAB⟩ : ∃ S : Str, ("ABCDEFGH" : Str) = S := ⟨_, rfl⟩
  rw [hAB] at ab
  rw [hAB]
  obtain ⟨v1, x1, a1, a2, a3⟩ := draw_call (env := [.io 0 b, .un, .un, .un]) (i := 0) (a := mC (.int 4)) (many := 4) hb rfl rfl (by omega)
  rw [W_seq, W_asg, a3, Gt_some]
  refine ⟨by show 1 < 4; decide, ?_⟩
  rw [sqK_nx, W_seq, W_asg]
  obtain ⟨s, x2, b1, b2, b3⟩ := draw_call (env := [.io 0 x1, .imm (.int (v1 : Nat)), .un, .un]) (i := 0) (a := mC (.int 8)) (many := 8) a2 rfl rfl (by omega)
  have bs := ab s (by omega)
  have D2 : mBin dIx (lFix (mC (.str AB))) (lFix (mCallV n_law_draw 2 m_law_draw (cIo 0 (cImm (mC (.int 8)) cNil)))) [.io 0 x1, .imm (.int (v1 : Nat)), .un, .un] = some (.str (tx [65 + s]), [.io 0 x2, .imm (.int (v1 : Nat)), .un, .un]) := by simp -implicitDefEqProofs [b3, bs]
  show Gt (mBin _ _ _ [.io 0 x1, .imm (.int (v1 : Nat)), .un, .un]) _
  rw [D2, Gt_some]
  refine ⟨by show 2 < 4; decide, ?_⟩
  obtain ⟨SA, hSA⟩ : ∃ SA, SA = D.str (tx [65 + s]) := ⟨_, rfl⟩
  rw [← hSA, sqK_nx, W_seq, W_asg]
  obtain ⟨g, x3, c1, c2, c3⟩ := draw_call (env := [.io 0 x2, .imm (.int (v1 : Nat)), .imm SA, .un]) (i := 0) (a := mC (.int 8)) (many := 8) b2 rfl rfl (by omega)
  have bg := ab g (by omega)
  have D3 : mBin dIx (lFix (mC (.str AB))) (lFix (mCallV n_law_draw 2 m_law_draw (cIo 0 (cImm (mC (.int 8)) cNil)))) [.io 0 x2, .imm (.int (v1 : Nat)), .imm SA, .un] = some (.str (tx [65 + g]), [.io 0 x3, .imm (.int (v1 : Nat)), .imm SA, .un]) := by simp -implicitDefEqProofs [c3, bg]
  show Gt (mBin _ _ _ [.io 0 x2, .imm (.int (v1 : Nat)), .imm SA, .un]) _
  rw [D3, Gt_some]
  refine ⟨by show 3 < 4; decide, ?_⟩
  obtain ⟨SB, hSB⟩ : ∃ SB, SB = D.str (tx [65 + g]) := ⟨_, rfl⟩
  rw [← hSB, sqK_nx]
  show W _ [.io 0 x3, .imm (.int (v1 : Nat)), .imm SA, .imm SB] _
  have T : mTest (mBin dLt (lVar 1) (lFix (mC (.int 2)))) [.io 0 x3, .imm (.int (v1 : Nat)), .imm SA, .imm SB] = some (decide ((v1 : Int) < 2), [.io 0 x3, .imm (.int (v1 : Nat)), .imm SA, .imm SB]) := by
    by_cases h : (v1 : Int) < 2
    · simp -implicitDefEqProofs [h]
    · simp -implicitDefEqProofs [h]
  have EQ : ∀ j : Int, ∀ x : D, mBin (dEqv false) (lVar 1) (lFix (mC (.int j))) [.io 0 x, .imm (.int (v1 : Nat)), .imm SA, .imm SB] = some (.bl (decide ((v1 : Int) = j)), [.io 0 x, .imm (.int (v1 : Nat)), .imm SA, .imm SB]) := fun j x => by
    simp -implicitDefEqProofs
  rw [W_seq, W_if, T, Gt_some]
  by_cases h2 : (v1 : Int) < 2
  · rw [if_pos (by simpa using h2)]
    have t := Tup_ok (a := aCons (mVar 2) (aCons (mVar 3) (aCons (mBin (dEqv false) (lVar 1) (lFix (mC (.int 0)))) (aCons (mC .non) (aCons (mC (.bl false)) aNil))))) (env := [.io 0 x3, .imm (.int (v1 : Nat)), .imm SA, .imm SB]) (e := [.io 0 x3, .imm (.int (v1 : Nat)), .imm SA, .imm SB]) (xs := [SA, SB, .bl (decide ((v1 : Int) = 0)), .non, .bl false]) (by simp -implicitDefEqProofs) (by simp)
    rw [W_ret, t, Gt_some, sqK_ret]
    by_cases h0 : (v1 : Int) = 0
    · exact ⟨x3, rfl, ⟨⟨s, g, .done⟩, ⟨by show s < 8; omega, by show g < 8; omega, trivial⟩, by rw [hSA, hSB, decide_eq_true h0]; rfl⟩, c2⟩
    · exact ⟨x3, rfl, ⟨⟨s, g, .waits⟩, ⟨by show s < 8; omega, by show g < 8; omega, trivial⟩, by rw [hSA, hSB, decide_eq_false h0]; rfl⟩, c2⟩
  · rw [if_neg (by simpa using h2), W_next, sqK_nx]
    obtain ⟨d, x4, ⟨n, hn, rfl⟩, d2, d3⟩ := io_call (N := n_law_number) (mf := m_law_number) number_ok (env := [.io 0 x3, .imm (.int (v1 : Nat)), .imm SA, .imm SB]) (i := 0) c2 rfl
    have p1 : putS [.io 0 x3, .imm (.int (v1 : Nat)), .imm SA, .imm SB] 0 x4 = [.io 0 x4, .imm (.int (v1 : Nat)), .imm SA, .imm SB] := rfl
    rw [p1] at d3
    have E2 := EQ 2 x4
    have t := Tup_ok (a := aCons (mVar 2) (aCons (mVar 3) (aCons (mC (.bl false)) (aCons (mCallV n_law_number 1 m_law_number (cIo 0 cNil)) (aCons (mBin (dEqv false) (lVar 1) (lFix (mC (.int 2)))) aNil))))) (env := [.io 0 x3, .imm (.int (v1 : Nat)), .imm SA, .imm SB]) (e := [.io 0 x4, .imm (.int (v1 : Nat)), .imm SA, .imm SB]) (xs := [SA, SB, .bl false, .int (n : Nat), .bl (decide ((v1 : Int) = 2))]) (by simp -implicitDefEqProofs [d3]) (by simp)
    rw [W_ret, t, Gt_some]
    exact ⟨x4, rfl, ⟨⟨s, g, .has n (decide ((v1 : Int) = 2))⟩, ⟨by show s < 8; omega, by show g < 8; omega, hn⟩, by rw [hSA, hSB]; rfl⟩, d2⟩
end Law
namespace Law
open PySem L2 Q
abbrev QR : Fl → Prop := RtIo 0 fun md d x => (∃ r, Rok r ∧ d = robD r) ∧ IsBox x
theorem rob_last {b : D} {k : Nat} {pl : Option (Nat × Nat)} {w : List (Nat × Nat)} {sw s6 : Sl} {o : Option Nat} {ld : Bool} (hb : IsBox b) (hp : ∀ q, pl = some q → Pok q) (hw : ∀ p ∈ w, Pok p) (hl : w.length ≤ 100) (hs : sw = .imm (.lst (w.map pD)) ∨ sw = .own (.lst (w.map pD))) (ho : ∀ n, o = some n → n < 1000000) (hld : o = none → ld = false) :
    W (mRet (mTup (aCons (mVar 2) (aCons (mBin (dEqv false) (lFix (mCallV n_law_draw 2 m_law_draw (cIo 0 (cImm (mC (.int 2)) cNil)))) (lFix (mC (.int 0)))) (aCons (mVar 4) (aCons (mVar 5) (aCons (mVar 3) aNil))))))) [.io 0 b, .imm (.int (k : Nat)), .imm (placeD pl), sw, .imm (orD o), .imm (.bl ld), s6] QR := by
  obtain ⟨v, x, a1, a2, a3⟩ := draw_call (env := [.io 0 b, .imm (.int (k : Nat)), .imm (placeD pl), sw, .imm (orD o), .imm (.bl ld), s6]) (i := 0) (a := mC (.int 2)) (many := 2) hb rfl rfl (by omega)
  have p1 : putS [.io 0 b, .imm (.int (k : Nat)), .imm (placeD pl), sw, .imm (orD o), .imm (.bl ld), s6] 0 x = [.io 0 x, .imm (.int (k : Nat)), .imm (placeD pl), sw, .imm (orD o), .imm (.bl ld), s6] := rfl
  rw [p1] at a3
  obtain ⟨WD, hWD⟩ : ∃ WD, WD = w.map pD := ⟨_, rfl⟩
  obtain ⟨PD, hPD⟩ : ∃ PD, PD = placeD pl := ⟨_, rfl⟩
  obtain ⟨OD, hOD⟩ : ∃ OD, OD = orD o := ⟨_, rfl⟩
  rw [← hWD] at hs
  rw [← hPD, ← hOD] at a3 ⊢
  have t := Tup_ok (a := aCons (mVar 2) (aCons (mBin (dEqv false) (lFix (mCallV n_law_draw 2 m_law_draw (cIo 0 (cImm (mC (.int 2)) cNil)))) (lFix (mC (.int 0)))) (aCons (mVar 4) (aCons (mVar 5) (aCons (mVar 3) aNil))))) (env := [.io 0 b, .imm (.int (k : Nat)), .imm PD, sw, .imm OD, .imm (.bl ld), s6]) (e := [.io 0 x, .imm (.int (k : Nat)), .imm PD, .imm (.lst WD), .imm OD, .imm (.bl ld), s6]) (xs := [PD, .bl (decide ((v : Int) = 0)), OD, .bl ld, .lst WD]) (by rcases hs with rfl | rfl <;> simp -implicitDefEqProofs [a3]) (by simp)
  rw [W_ret, t, Gt_some]
  exact ⟨x, rfl, ⟨⟨pl, decide ((v : Int) = 0), ⟨o, ld, w⟩⟩, ⟨hp, ⟨ho, hld, hw, hl⟩⟩, by rw [hPD, hOD, hWD]; rfl⟩, a2⟩
theorem rob_mid {b : D} {k : Nat} {pl : Option (Nat × Nat)} {w : List (Nat × Nat)} {sw s4 s5 s6 : Sl} (hb : IsBox b) (hp : ∀ q, pl = some q → Pok q) (hw : ∀ p ∈ w, Pok p) (hl : w.length ≤ 100) (hs : sw = .imm (.lst (w.map pD)) ∨ sw = .own (.lst (w.map pD))) :
    W (mSeq (mAsg 4 (mC .non))
    (mSeq (mAsg 5 (mC (.bl false)))
    (mSeq (mIfS (mTest (mBin (dEqv false) (lFix (mCallV n_law_draw 2 m_law_draw (cIo 0 (cImm (mC (.int 2)) cNil)))) (lFix (mC (.int 0)))))
    (mSeq (mAsg 4 (mCallV n_law_number 1 m_law_number (cIo 0 cNil)))
    (mAsg 5 (mBin (dEqv false) (lFix (mCallV n_law_draw 2 m_law_draw (cIo 0 (cImm (mC (.int 2)) cNil)))) (lFix (mC (.int 0))))))
    mNext)
    (mRet (mTup (aCons (mVar 2) (aCons (mBin (dEqv false) (lFix (mCallV n_law_draw 2 m_law_draw (cIo 0 (cImm (mC (.int 2)) cNil)))) (lFix (mC (.int 0)))) (aCons (mVar 4) (aCons (mVar 5) (aCons (mVar 3) aNil)))))))))) [.io 0 b, .imm (.int (k : Nat)), .imm (placeD pl), sw, s4, s5, s6] QR := by
  have L := fun (b : D) (o : Option Nat) (ld : Bool) (hb : IsBox b) => rob_last (b := b) (k := k) (s6 := s6) (o := o) (ld := ld) hb hp hw hl hs
  obtain ⟨PD, hPD⟩ : ∃ PD, PD = placeD pl := ⟨_, rfl⟩
  rw [← hPD] at L ⊢
  rw [W_seq, W_asg, ap_C, Gt_some]
  refine ⟨by show 4 < 7; decide, ?_⟩
  rw [sqK_nx, W_seq, W_asg, ap_C, Gt_some]
  refine ⟨by show 5 < 7; decide, ?_⟩
  rw [sqK_nx, W_seq]
  show W (mIfS _ _ _) [.io 0 b, .imm (.int (k : Nat)), .imm PD, sw, .imm .non, .imm (.bl false), s6] _
  obtain ⟨v, x, a1, a2, a3⟩ := draw_call (env := [.io 0 b, .imm (.int (k : Nat)), .imm PD, sw, .imm .non, .imm (.bl false), s6]) (i := 0) (a := mC (.int 2)) (many := 2) hb rfl rfl (by omega)
  have T : mTest (mBin (dEqv false) (lFix (mCallV n_law_draw 2 m_law_draw (cIo 0 (cImm (mC (.int 2)) cNil)))) (lFix (mC (.int 0)))) [.io 0 b, .imm (.int (k : Nat)), .imm PD, sw, .imm .non, .imm (.bl false), s6] = some (decide ((v : Int) = 0), [.io 0 x, .imm (.int (k : Nat)), .imm PD, sw, .imm .non, .imm (.bl false), s6]) := by
    by_cases h : (v : Int) = 0
    · simp -implicitDefEqProofs [a3, h]
    · simp -implicitDefEqProofs [a3, h]
  rw [W_if, T, Gt_some]
  by_cases h0 : (v : Int) = 0
  · rw [if_pos (by simpa using h0)]
    obtain ⟨d, y, ⟨n, hn, rfl⟩, d2, d3⟩ := io_call (N := n_law_number) (mf := m_law_number) number_ok (env := [.io 0 x, .imm (.int (k : Nat)), .imm PD, sw, .imm .non, .imm (.bl false), s6]) (i := 0) a2 rfl
    rw [W_seq, W_asg, d3, Gt_some]
    refine ⟨by show 4 < 7; decide, ?_⟩
    rw [sqK_nx, W_asg]
    obtain ⟨u, z, c1, c2, c3⟩ := draw_call (env := [.io 0 y, .imm (.int (k : Nat)), .imm PD, sw, .imm (.int (n : Nat)), .imm (.bl false), s6]) (i := 0) (a := mC (.int 2)) (many := 2) d2 rfl rfl (by omega)
    have DD : mBin (dEqv false) (lFix (mCallV n_law_draw 2 m_law_draw (cIo 0 (cImm (mC (.int 2)) cNil)))) (lFix (mC (.int 0))) [.io 0 y, .imm (.int (k : Nat)), .imm PD, sw, .imm (.int (n : Nat)), .imm (.bl false), s6] = some (.bl (decide ((u : Int) = 0)), [.io 0 z, .imm (.int (k : Nat)), .imm PD, sw, .imm (.int (n : Nat)), .imm (.bl false), s6]) := by
      simp -implicitDefEqProofs [c3]
    show Gt (mBin _ _ _ [.io 0 y, .imm (.int (k : Nat)), .imm PD, sw, .imm (.int (n : Nat)), .imm (.bl false), s6]) _
    rw [DD, Gt_some]
    refine ⟨by show 5 < 7; decide, ?_⟩
    rw [sqK_nx]
    exact L z (some n) (decide ((u : Int) = 0)) c2 (fun m e => by cases e; exact hn) (fun e => by cases e)
  · rw [if_neg (by simpa using h0), W_next, sqK_nx]
    exact L x none false a2 (fun m e => by cases e) (fun _ => rfl)
theorem robot_ok (b : D) (hb : IsBox b) : W m_law_robot [.io 0 b, .un, .un, .un, .un, .un, .un] QR := by
  unfold m_law_robot
  obtain ⟨k, x1, a1, a2, a3⟩ := draw_call (env := [.io 0 b, .un, .un, .un, .un, .un, .un]) (i := 0) (a := mC (.int 6)) (many := 6) hb rfl rfl (by omega)
  rw [W_seq, W_asg, a3, Gt_some]
  refine ⟨by show 1 < 7; decide, ?_⟩
  rw [sqK_nx, W_seq, W_asg, ap_C, Gt_some]
  refine ⟨by show 2 < 7; decide, ?_⟩
  rw [sqK_nx, W_seq, W_asg, Lst_0, Gt_some]
  refine ⟨by show 3 < 7; decide, ?_⟩
  rw [sqK_nx, W_seq]
  show W (mIfS _ _ _) [.io 0 x1, .imm (.int (k : Nat)), .imm (placeD none), .imm (.lst []), .un, .un, .un] _
  have T : ∀ (j : Int) (b P : D), mTest (mBin dGt (lVar 1) (lFix (mC (.int j)))) [.io 0 b, .imm (.int (k : Nat)), .imm P, .imm (.lst []), .un, .un, .un] = some (decide (j < (k : Int)), [.io 0 b, .imm (.int (k : Nat)), .imm P, .imm (.lst []), .un, .un, .un]) := fun j b P => by
    by_cases h : j < (k : Int)
    · simp -implicitDefEqProofs [h]
    · simp -implicitDefEqProofs [h]
  have way : ∀ (b : D) (pl : Option (Nat × Nat)), IsBox b → (∀ q, pl = some q → Pok q) → W (mSeq (mIfS (mTest (mBin dGt (lVar 1) (lFix (mC (.int 1)))))
    (mAsgF 3 (mLc [6] (iR1 (aCons (mBin dAdd (lFix (mC (.int 1))) (lFix (mCallV n_law_draw 2 m_law_draw (cIo 0 (cImm (mC (.int 4)) cNil))))) aNil)) (gN 6) mYes (mCallV n_law_place 1 m_law_place (cIo 0 cNil))))
    mNext)
    (mSeq (mAsg 4 (mC .non))
    (mSeq (mAsg 5 (mC (.bl false)))
    (mSeq (mIfS (mTest (mBin (dEqv false) (lFix (mCallV n_law_draw 2 m_law_draw (cIo 0 (cImm (mC (.int 2)) cNil)))) (lFix (mC (.int 0)))))
    (mSeq (mAsg 4 (mCallV n_law_number 1 m_law_number (cIo 0 cNil)))
    (mAsg 5 (mBin (dEqv false) (lFix (mCallV n_law_draw 2 m_law_draw (cIo 0 (cImm (mC (.int 2)) cNil)))) (lFix (mC (.int 0))))))
    mNext)
    (mRet (mTup (aCons (mVar 2) (aCons (mBin (dEqv false) (lFix (mCallV n_law_draw 2 m_law_draw (cIo 0 (cImm (mC (.int 2)) cNil)))) (lFix (mC (.int 0)))) (aCons (mVar 4) (aCons (mVar 5) (aCons (mVar 3) aNil))))))))))) [.io 0 b, .imm (.int (k : Nat)), .imm (placeD pl), .imm (.lst []), .un, .un, .un] QR := by
    intro b pl hb hp
    have M := fun (b : D) (w : List (Nat × Nat)) (sw : Sl) (hb : IsBox b) => rob_mid (b := b) (k := k) (w := w) (sw := sw) (s4 := .un) (s5 := .un) (s6 := .un) hb hp
    obtain ⟨PD, hPD⟩ : ∃ PD, PD = placeD pl := ⟨_, rfl⟩
    rw [← hPD] at M ⊢
    rw [W_seq, W_if, T, Gt_some]
    by_cases h1 : (1 : Int) < (k : Int)
    · rw [if_pos (by simpa using h1)]
      obtain ⟨v, x, c1, c2, c3⟩ := draw_call (env := [.io 0 b, .imm (.int (k : Nat)), .imm PD, .imm (.lst []), .un, .un, .un]) (i := 0) (a := mC (.int 4)) (many := 4) hb rfl rfl (by omega)
      have e : (1 : Int) + (v : Int) = ((v + 1 : Nat) : Int) := by omega
      have A : aCons (mBin dAdd (lFix (mC (.int 1))) (lFix (mCallV n_law_draw 2 m_law_draw (cIo 0 (cImm (mC (.int 4)) cNil))))) aNil [.io 0 b, .imm (.int (k : Nat)), .imm PD, .imm (.lst []), .un, .un, .un] = some ([.int ((v + 1 : Nat) : Int)], [.io 0 x, .imm (.int (k : Nat)), .imm PD, .imm (.lst []), .un, .un, .un]) := by
        rw [← e]; simp -implicitDefEqProofs [c3]
      obtain ⟨acc, e2, g1, ⟨y, t, rfl, hy⟩, w, hw1, hw2, hw3⟩ := lc_ok (vs := [6]) (gf := gN 6) (mt := mYes) (me := mCallV n_law_place 1 m_law_place (cIo 0 cNil)) (ds := rngD 0 (v + 1)) (iR1_ok (n := v + 1) A (by omega)) rfl
        (by rw [rng_len]; omega) (fun e => ∃ b t, e = [.io 0 b, .imm (.int (k : Nat)), .imm PD, .imm (.lst []), .un, .un, t] ∧ IsBox b) (fun j acc => ∃ w : List (Nat × Nat), acc = w.map pD ∧ w.length = j ∧ ∀ p ∈ w, Pok p) ⟨x, _, rfl, c2⟩ ⟨[], rfl, rfl, fun p hp => by cases hp⟩ (by
          rintro i d e acc hd ⟨b, t, rfl, hb⟩ ⟨w, rfl, hw, hwp⟩
          obtain ⟨pd, z, ⟨p, hpo, rfl⟩, d2, d3⟩ := io_call (N := n_law_place) (mf := m_law_place) place_ok (env := [.io 0 b, .imm (.int (k : Nat)), .imm PD, .imm (.lst []), .un, .un, .imm d]) (i := 0) hb rfl
          refine ⟨[.io 0 b, .imm (.int (k : Nat)), .imm PD, .imm (.lst []), .un, .un, .imm d], true, [.io 0 b, .imm (.int (k : Nat)), .imm PD, .imm (.lst []), .un, .un, .imm d], by simp -implicitDefEqProofs [wipeE], rfl, fun _ => ⟨pD p, _, d3, ⟨z, .imm d, rfl, d2⟩, w ++ [p], by simp, by simp; omega, fun q hq => ?_⟩, fun z => by cases z⟩
          rcases List.mem_append.mp hq with h | h
          · exact hwp q h
          · have : q = p := by simpa using h
            rw [this]; exact hpo)
      have hbk : backE [.io 0 x, .imm (.int (k : Nat)), .imm PD, .imm (.lst []), .un, .un, .un] (wipeE [.io 0 y, .imm (.int (k : Nat)), .imm PD, .imm (.lst []), .un, .un, t] [6]) [6] = [.io 0 y, .imm (.int (k : Nat)), .imm PD, .imm (.lst []), .un, .un, .un] := by simp -implicitDefEqProofs [backE, wipeE]
      rw [hbk, hw1] at g1
      rw [rng_len] at hw2
      rw [W_asgF, g1, Gt_some]
      refine ⟨by show 3 < 7; decide, ?_⟩
      rw [sqK_nx]
      exact M y w (.own (.lst (w.map pD))) hy hw3 (by omega) (.inr rfl)
    · rw [if_neg (by simpa using h1), W_next, sqK_nx]
      exact M b [] (.imm (.lst [])) hb (fun p hp => by cases hp) (by simp) (.inl rfl)
  rw [W_if, T, Gt_some]
  by_cases h0 : (0 : Int) < (k : Int)
  · rw [if_pos (by simpa using h0)]
    obtain ⟨pd, z, ⟨p, hpo, rfl⟩, d2, d3⟩ := io_call (N := n_law_place) (mf := m_law_place) place_ok (env := [.io 0 x1, .imm (.int (k : Nat)), .imm (placeD none), .imm (.lst []), .un, .un, .un]) (i := 0) a2 rfl
    rw [W_asg, d3, Gt_some]
    refine ⟨by show 2 < 7; decide, ?_⟩
    rw [sqK_nx]
    exact way z (some p) d2 (fun q e => by cases e; exact hpo)
  · rw [if_neg (by simpa using h0), W_next, sqK_nx]
    exact way x1 none a2 (fun q e => by cases e)
end Law
namespace Law
open PySem L2 Q
theorem told_lc {N : List Str} {mf : MS} {A : Type} {f : A → D} {OK : A → Prop} (h : ∀ b, IsBox b → W mf ([.io 0 b] ++ List.replicate (N.length - 1) .un) (RtIo 0 fun md d x => (∃ a, OK a ∧ d = f a) ∧ IsBox x)) {b : D} {s1 s2 : Sl} (hb : IsBox b) :
    ∃ (y : D) (L : List A), IsBox y ∧ L.length ≤ 5 ∧ (∀ a ∈ L, OK a) ∧ mLc [3] (iR1 (aCons (mCallV n_law_draw 2 m_law_draw (cIo 0 (cImm (mC (.int 6)) cNil))) aNil)) (gN 3) mYes (mCallV N 1 mf (cIo 0 cNil)) [.io 0 b, s1, s2, .un] = some (.lst (L.map f), [.io 0 y, s1, s2, .un]) := by
  obtain ⟨v, x, c1, c2, c3⟩ := draw_call (env := [.io 0 b, s1, s2, .un]) (i := 0) (a := mC (.int 6)) (many := 6) hb rfl rfl (by omega)
  have A1 : aCons (mCallV n_law_draw 2 m_law_draw (cIo 0 (cImm (mC (.int 6)) cNil))) aNil [.io 0 b, s1, s2, .un] = some ([.int (v : Nat)], [.io 0 x, s1, s2, .un]) := by
    simp -implicitDefEqProofs [c3]
  obtain ⟨acc, e2, g1, ⟨y, t, rfl, hy⟩, w, hw1, hw2, hw3⟩ := lc_ok (vs := [3]) (gf := gN 3) (mt := mYes) (me := mCallV N 1 mf (cIo 0 cNil)) (ds := rngD 0 v) (iR1_ok (n := v) A1 (by omega)) rfl
    (by rw [rng_len]; omega) (fun e => ∃ b t, e = [.io 0 b, s1, s2, t] ∧ IsBox b) (fun j acc => ∃ w : List A, acc = w.map f ∧ w.length = j ∧ ∀ p ∈ w, OK p) ⟨x, _, rfl, c2⟩ ⟨[], rfl, rfl, fun p hp => by cases hp⟩ (by
      rintro i d e acc hd ⟨b, t, rfl, hb⟩ ⟨w, rfl, hw, hwp⟩
      obtain ⟨pd, z, ⟨p, hpo, rfl⟩, d2, d3⟩ := io_call (N := N) (mf := mf) h (env := [.io 0 b, s1, s2, .imm d]) (i := 0) hb rfl
      refine ⟨[.io 0 b, s1, s2, .imm d], true, [.io 0 b, s1, s2, .imm d], by simp -implicitDefEqProofs [wipeE], rfl, fun _ => ⟨f p, _, d3, ⟨z, .imm d, rfl, d2⟩, w ++ [p], by simp, by simp; omega, fun q hq => ?_⟩, fun z => by cases z⟩
      rcases List.mem_append.mp hq with h | h
      · exact hwp q h
      · have : q = p := by simpa using h
        rw [this]; exact hpo)
  have hbk : backE [.io 0 x, s1, s2, .un] (wipeE [.io 0 y, s1, s2, t] [3]) [3] = [.io 0 y, s1, s2, .un] := by simp -implicitDefEqProofs [backE, wipeE]
  rw [hbk, hw1] at g1
  rw [rng_len] at hw2
  exact ⟨y, w, hy, by omega, hw3, g1⟩
theorem told_ok (b : D) (hb : IsBox b) : W m_law_told [.io 0 b, .un, .un, .un] (RtIo 0 fun md d x => (∃ R O, Rep R O ∧ d = .lst [.lst (R.map robD), .lst (O.map ordD)]) ∧ IsBox x) := by
  unfold m_law_told
  obtain ⟨y, R, hy, hRl, hR, c1⟩ := told_lc (N := n_law_robot) (mf := m_law_robot) (f := robD) (OK := Rok) robot_ok (b := b) (s1 := .un) (s2 := .un) hb
  rw [W_seq, W_asgF, c1, Gt_some]
  refine ⟨by show 1 < 4; decide, ?_⟩
  rw [sqK_nx, W_seq, W_asgF]
  obtain ⟨z, O, hz, hOl, hO, c2⟩ := told_lc (N := n_law_order) (mf := m_law_order) (f := ordD) (OK := Ook) order_ok (b := y) (s1 := .own (.lst (R.map robD))) (s2 := .un) hy
  show Gt (mLc _ _ _ _ _ [.io 0 y, .own (.lst (R.map robD)), .un, .un]) _
  rw [c2, Gt_some]
  refine ⟨by show 2 < 4; decide, ?_⟩
  rw [sqK_nx]
  have hrep : Rep R O := ⟨by omega, by omega, hR, hO⟩
  show W _ [.io 0 z, .own (.lst (R.map robD)), .own (.lst (O.map ordD)), .un] _
  obtain ⟨RD, hRD⟩ : ∃ RD, RD = R.map robD := ⟨_, rfl⟩
  obtain ⟨OD, hOD⟩ : ∃ OD, OD = O.map ordD := ⟨_, rfl⟩
  rw [← hRD, ← hOD]
  have t := Lst_ok (a := aCons (mVar 1) (aCons (mVar 2) aNil)) (env := [.io 0 z, .own (.lst RD), .own (.lst OD), .un]) (e := [.io 0 z, .imm (.lst RD), .imm (.lst OD), .un]) (xs := [.lst RD, .lst OD]) (by simp) (by simp)
  rw [W_retF, t, Gt_some]
  exact ⟨z, rfl, ⟨R, O, hrep, by rw [hRD, hOD]⟩, hz⟩
end Law
namespace Law
open PySem L2 Q
theorem eqvL {xs : List D} {ps : List PyData} (neg : Bool) (ht : toPs xs = some ps) (h1 : PyData.canLayAll0 ps = true) (h2 : PyData.depthAll ps ≤ 60) : dEqv neg (.lst xs) (.lst xs) = some (.bl (!neg)) := by
  have hl : PyData.canLay0 (.list ps) = true := by simp [PyData.canLay0, h1]
  have hd : PyData.depth (.list ps) ≤ 64 := by simp [PyData.depth]; omega
  have hs : SeqAt.shaped (.list ps) = true := by unfold SeqAt.shaped; simp [hl, hd]
  have he := SeqAt.eqv_refl _ hl
  have ht' : toP (.lst xs) = some (.list ps) := by simp [toP, ht]
  show ((toP (.lst xs)).bind fun d => (toP (.lst xs)).bind fun e => if (SeqAt.shaped d && SeqAt.shaped e) = true then some (D.bl (if neg then !PyData.eqv d e else PyData.eqv d e)) else none) = _
  rw [ht', bind_some2, bind_some2, hs, he]
  cases neg <;> rfl
abbrev PGood (n : Nat) (d : D) : Prop := ∃ p, toP d = some p ∧ PyData.canLay0 p = true ∧ PyData.depth p ≤ n
theorem toPs_of {A : Type} {f : A → D} {n : Nat} : ∀ L : List A, (∀ a ∈ L, PGood n (f a)) → ∃ ps, toPs (L.map f) = some ps ∧ PyData.canLayAll0 ps = true ∧ PyData.depthAll ps ≤ n
  | [], _ => ⟨[], rfl, rfl, Nat.zero_le _⟩
  | a :: L, h => by
    obtain ⟨p, h1, h2, h3⟩ := h a (by simp)
    obtain ⟨ps, g1, g2, g3⟩ := toPs_of L fun b hb => h b (List.mem_cons_of_mem _ hb)
    exact ⟨p :: ps, by simp [toPs, h1, g1], by simp [PyData.canLayAll0, h2, g2], by simp [PyData.depthAll]; omega⟩
theorem pg_pD (p : Nat × Nat) : PGood 1 (pD p) := ⟨.tuple [.int (p.1 : Nat), .int (p.2 : Nat)], rfl, by simp [PyData.canLay0, PyData.canLayAll0], by simp [PyData.depth, PyData.depthAll]⟩
theorem pg_place (p : Option (Nat × Nat)) : PGood 1 (placeD p) := by
  cases p with
  | none => exact ⟨.none, rfl, rfl, by decide⟩
  | some q => exact pg_pD q
theorem pg_or (o : Option Nat) : PGood 0 (orD o) := by
  cases o with
  | none => exact ⟨.none, rfl, rfl, by decide⟩
  | some n => exact ⟨.int (n : Nat), rfl, by simp [PyData.canLay0], by simp [PyData.depth]⟩
theorem pg_rob (r : Rob) : PGood 10 (robD r) := by
  obtain ⟨p1, a1, a2, a3⟩ := pg_place r.place
  obtain ⟨p2, b1, b2, b3⟩ := pg_or r.er.order
  obtain ⟨ps, c1, c2, c3⟩ := toPs_of (f := pD) (n := 1) r.er.way fun p _ => pg_pD p
  refine ⟨.tuple [p1, .bool r.broken, p2, .bool r.er.loaded, .list ps], ?_, ?_, ?_⟩
  · unfold robD; simp [toP, toPs, a1, b1, c1]
  · simp [PyData.canLay0, PyData.canLayAll0, a2, b2, c2]
  · simp [PyData.depth, PyData.depthAll]; omega
theorem pg_ord {o : Ord} (ho : Ook o) : PGood 10 (ordD o) := by
  have hs : PyData.strOk (tx [65 + o.s]) = true := ok_tx fun c hc => by
    have := ho.s
    have : c = 65 + o.s := by simpa using hc
    omega
  have hg : PyData.strOk (tx [65 + o.g]) = true := ok_tx fun c hc => by
    have := ho.g
    have : c = 65 + o.g := by simpa using hc
    omega
  cases h : o.st with
  | done => exact ⟨.tuple [.str (tx [65 + o.s]), .str (tx [65 + o.g]), .bool true, .none, .bool false], by unfold ordD; rw [h]; rfl, by simp [PyData.canLay0, PyData.canLayAll0, hs, hg], by simp [PyData.depth, PyData.depthAll]⟩
  | waits => exact ⟨.tuple [.str (tx [65 + o.s]), .str (tx [65 + o.g]), .bool false, .none, .bool false], by unfold ordD; rw [h]; rfl, by simp [PyData.canLay0, PyData.canLayAll0, hs, hg], by simp [PyData.depth, PyData.depthAll]⟩
  | has n b => exact ⟨.tuple [.str (tx [65 + o.s]), .str (tx [65 + o.g]), .bool false, .int (n : Nat), .bool b], by unfold ordD; rw [h]; rfl, by simp [PyData.canLay0, PyData.canLayAll0, hs, hg], by simp [PyData.depth, PyData.depthAll]⟩
theorem row5 {R : List Rob} {O : List Ord} {d : D} (h : d ∈ R.map robD ++ O.map ordD) : ∃ a b c e f, d = .tup [a, b, c, e, f] := by
  rcases List.mem_append.mp h with h | h
  · obtain ⟨r, _, rfl⟩ := List.mem_map.mp h
    exact ⟨_, _, _, _, _, rfl⟩
  · obtain ⟨o, _, rfl⟩ := List.mem_map.mp h
    unfold ordD
    cases o.st <;> exact ⟨_, _, _, _, _, rfl⟩
theorem row_res (a b c e f : D) : res n_law_is_row m_law_is_row [.imm (.tup [a, b, c, e, f])] [] = some (.bl true, []) := by
  refine res_eq ?_
  unfold m_law_is_row
  have is : dIsi [.tup [a, b, c, e, f], .typ "tuple"] = some (.bl true) := rfl
  have ln : dLen [.tup [a, b, c, e, f]] = some (.int 5) := rfl
  generalize D.tup [a, b, c, e, f] = X at is ln
  show W _ [.imm X] _
  have T : mAndV (mBi dIsi (bCons (lVar 0) (bCons (lFix (mC (.typ "tuple"))) bNil))) (mBin (dEqv false) (lFix (mBi dLen (bCons (lVar 0) bNil))) (lFix (mC (.int 5)))) [.imm X] = some (.bl true, [.imm X]) := by
    simp -implicitDefEqProofs [is, ln]
  rw [W_ret, T, Gt_some, RtA_ret, ioAt_nil, Gt_some]
  exact ⟨rfl, rfl⟩
theorem rep_split {R : List Rob} {O : List Ord} (h : Rep R O) : ∃ X, fSplit (repT R O) ⟨#[10]⟩ = some (.lst X) ∧ ((R.length + O.length = 0 ∧ repT R O = tx []) ∨ (R.length + O.length ≠ 0 ∧ X.length = R.length + O.length)) := by
  have h1 := h.rl
  have h2 := h.ol
  have l1 : (robL R).length = R.length := List.length_mapIdx
  have l2 : (ordL O).length = O.length := List.length_mapIdx
  have ll := repL_len h
  have jl := joinC_len 10 2000 _ ll
  rw [List.length_append, l1, l2] at jl
  have hm : (R.length + O.length) * (2000 + 1) ≤ 20 * 2001 := Nat.mul_le_mul (by omega) (Nat.le_refl _)
  have no10 : ∀ a ∈ robL R ++ ordL O, 10 ∉ a := by
    intro a ha h10
    rcases List.mem_append.mp ha with ha | ha
    · obtain ⟨i, hi, rfl⟩ := List.mem_mapIdx.mp ha
      have := joinC_hi _ (robW_hi i R[i]) 10 h10
      omega
    · obtain ⟨i, hi, rfl⟩ := List.mem_mapIdx.mp ha
      have := joinC_hi _ (ordW_hi i O[i]) 10 h10
      omega
  by_cases h0 : R.length + O.length = 0
  · have hR : R = [] := List.eq_nil_of_length_eq_zero (by omega)
    have hO : O = [] := List.eq_nil_of_length_eq_zero (by omega)
    subst hR; subst hO
    have sp := spl (c := 10) (by decide) (ws := [[]]) (by simp) (by simp) (by decide)
    exact ⟨_, sp, .inl ⟨rfl, rfl⟩⟩
  · have sp := spl (c := 10) (by decide) (ws := robL R ++ ordL O) (fun z => by
      have := congrArg List.length z
      rw [List.length_append, l1, l2] at this
      exact h0 this) no10 (by omega)
    exact ⟨_, sp, .inr ⟨h0, by rw [List.length_map, List.length_append, l1, l2]⟩⟩
end Law
namespace Law
open PySem L2 Q
theorem law_true (ns : List Int) (h : ns.length ≤ 63) : ∃ env, m_law (Sl.imm (.scr (ns.map D.int)) :: List.replicate (n_law.length - 1) Sl.un) = some (.ret .imm (.bl true) env) := by
  suffices hW : Q.W m_law [.imm (.scr (dI ns)), .un, .un, .un, .un, .un, .un] (fun fl => ∃ env, fl = .ret .imm (.bl true) env) by
    obtain ⟨fl, h1, env, rfl⟩ := hW
    exact ⟨env, h1⟩
  obtain ⟨md, d, ⟨digs, rfl⟩, c1⟩ := rt_res1 (N := n_law_digits) (mf := m_law_digits) (ss := [.imm (.scr (dI ns)), .imm (.int 0), .imm (.int 63)]) (digits_ok ns)
  obtain ⟨B0, hB0⟩ : ∃ B0, B0 = D.lst [.lst (dI digs), .int 0] := ⟨_, rfl⟩
  have hb0 : IsBox B0 := ⟨digs, 0, hB0⟩
  obtain ⟨d, b1, ⟨R, O, hrep, rfl⟩, hb1, c2⟩ := io_call (N := n_law_told) (mf := m_law_told) told_ok (env := [.imm (.scr (dI ns)), .own B0, .un, .un, .un, .un, .un]) (i := 1) hb0 rfl
  have wr := wrep_res hrep
  have rr := rrep_res hrep
  obtain ⟨X, sp, hX⟩ := rep_split hrep
  obtain ⟨ps1, e1, e2, e3⟩ := toPs_of (f := robD) (n := 10) R fun r _ => pg_rob r
  obtain ⟨ps2, f1, f2, f3⟩ := toPs_of (f := ordD) (n := 10) O fun o ho => pg_ord (hrep.o o ho)
  have eR := eqvL true e1 e2 (by omega)
  have eO := eqvL true f1 f2 (by omega)
  have rw5 : ∀ d ∈ R.map robD ++ O.map ordD, ∃ a b c e f, d = .tup [a, b, c, e, f] := fun d hd => row5 hd
  have hRl := hrep.rl
  have hOl := hrep.ol
  obtain ⟨RD, hRD⟩ : ∃ RD, RD = R.map robD := ⟨_, rfl⟩
  obtain ⟨OD, hOD⟩ : ∃ OD, OD = O.map ordD := ⟨_, rfl⟩
  have lR : RD.length = R.length := by rw [hRD, List.length_map]
  have lO : OD.length = O.length := by rw [hOD, List.length_map]
  rw [← lR, ← lO] at hX
  rw [← lR] at hRl
  rw [← lO] at hOl
  rw [← hRD, ← hOD] at wr rr rw5 c2
  rw [← hRD] at eR
  rw [← hOD] at eO
  obtain ⟨T, hT⟩ : ∃ T, T = repT R O := ⟨_, rfl⟩
  rw [← hT] at wr rr sp hX
  clear hRD hOD hT e1 f1 lR lO
  obtain ⟨RW, hRW⟩ : ∃ RW, RW = D.lst [.lst RD, .lst OD] := ⟨_, rfl⟩
  obtain ⟨TD, hTD⟩ : ∃ TD, TD = D.tup [.lst RD, .lst OD] := ⟨_, rfl⟩
  have i0 : dIx RW (.int 0) = some (.lst RD) := by rw [hRW]; rfl
  have i1 : dIx RW (.int 1) = some (.lst OD) := by rw [hRW]; rfl
  have j0 : dIx TD (.int 0) = some (.lst RD) := by rw [hTD]; rfl
  have j1 : dIx TD (.int 1) = some (.lst OD) := by rw [hTD]; rfl
  have it : dIsi [TD, .typ "tuple"] = some (.bl true) := by rw [hTD]; rfl
  have lt : dLen [TD] = some (.int 2) := by rw [hTD]; rfl
  have iR : dIsi [.lst RD, .typ "list"] = some (.bl true) := rfl
  have iO : dIsi [.lst OD, .typ "list"] = some (.bl true) := rfl
  have iT : dIsi [.str T, .typ "str"] = some (.bl true) := rfl
  rw [← hRW] at c2
  rw [← hTD] at rr
  have e8 : ("\n" : Str) = ⟨#[10]⟩ := rfl
  have e0 : ("" : Str) = tx [] := rfl
  unfold m_law
  rw [e8, e0]
  have D0 : mLst (aCons (mCallV n_law_digits 3 m_law_digits (cImm (mVar 0) (cImm (mC (.int 0)) (cImm (mC (.int 63)) cNil)))) (aCons (mC (.int 0)) aNil)) [.imm (.scr (dI ns)), .un, .un, .un, .un, .un, .un] = some (B0, [.imm (.scr (dI ns)), .un, .un, .un, .un, .un, .un]) := by
    rw [hB0]; simp -implicitDefEqProofs [V_eq, c1]
  rw [W_seq, W_asgF, D0, Gt_some]
  refine ⟨by show 1 < 7; decide, ?_⟩
  rw [sqK_nx, W_seq, W_asg]
  show Gt (mCallV _ _ _ _ [.imm (.scr (dI ns)), .own B0, .un, .un, .un, .un, .un]) _
  rw [c2, Gt_some]
  refine ⟨by show 2 < 7; decide, ?_⟩
  obtain ⟨S0, hS0⟩ : ∃ S0, S0 = D.scr (dI ns) := ⟨_, rfl⟩
  rw [← hS0]
  rw [sqK_nx, W_seq, W_asg]
  show Gt (mCallV _ _ _ _ [.imm S0, .own b1, .imm RW, .un, .un, .un, .un]) _
  have D3 : mCallV n_write_report 2 m_write_report (cImm (mBin dIx (lVar 2) (lFix (mC (.int 0)))) (cImm (mBin dIx (lVar 2) (lFix (mC (.int 1)))) cNil)) [.imm S0, .own b1, .imm RW, .un, .un, .un, .un] = some (.str T, [.imm S0, .own b1, .imm RW, .un, .un, .un, .un]) := by
    simp -implicitDefEqProofs [V_eq, i0, i1, wr, -Q.ix_lst]
  rw [D3, Gt_some]
  refine ⟨by show 3 < 7; decide, ?_⟩
  rw [sqK_nx, W_seq]
  show W (mIfS _ _ _) [.imm S0, .own b1, .imm RW, .imm (.str T), .un, .un, .un] _
  have T1 : mNot (mTru (lFix (mBi dIsi (bCons (lVar 3) (bCons (lFix (mC (.typ "str"))) bNil))))) [.imm S0, .own b1, .imm RW, .imm (.str T), .un, .un, .un] = some (false, [.imm S0, .own b1, .imm RW, .imm (.str T), .un, .un, .un]) := by
    simp -implicitDefEqProofs [iT]
  rw [W_if, T1, Gt_some, if_neg (by simp), W_next, sqK_nx, W_seq, W_asg]
  have D4 : mM1 fSplit (mVar 3) (mC (.str ⟨#[10]⟩)) [.imm S0, .own b1, .imm RW, .imm (.str T), .un, .un, .un] = some (.lst X, [.imm S0, .own b1, .imm RW, .imm (.str T), .un, .un, .un]) := by
    show (fSplit T ⟨#[10]⟩).map _ = _
    rw [sp]; rfl
  rw [D4, Gt_some]
  refine ⟨by show 4 < 7; decide, ?_⟩
  rw [sqK_nx, W_seq]
  show W (mIfS _ _ _) [.imm S0, .own b1, .imm RW, .imm (.str T), .imm (.lst X), .un, .un] _
  have T2 : mTest (mBin (dEqv false) (lFix (mBin dAdd (lFix (mBi dLen (bCons (lFix (mBin dIx (lVar 2) (lFix (mC (.int 0))))) bNil))) (lFix (mBi dLen (bCons (lFix (mBin dIx (lVar 2) (lFix (mC (.int 1))))) bNil))))) (lFix (mC (.int 0)))) [.imm S0, .own b1, .imm RW, .imm (.str T), .imm (.lst X), .un, .un] = some (decide ((RD.length : Int) + (OD.length : Int) = 0), [.imm S0, .own b1, .imm RW, .imm (.str T), .imm (.lst X), .un, .un]) := by
    by_cases hz : (RD.length : Int) + (OD.length : Int) = 0
    · simp -implicitDefEqProofs only [ap_Test, ap_Bin, ap_Bi, ap_bCons, ap_bNil, lsGet_cons, lsGet_nil, ap_lVar, ap_lFix, ap_C, List.getElem?_cons_succ, List.getElem?_cons_zero, Option.bind_some, Option.map_some, rd_imm, get_slot, get_fix, i0, i1, len_lst, add_int, eqv_int, hz, decide_true, if_true]
      rfl
    · simp -implicitDefEqProofs only [ap_Test, ap_Bin, ap_Bi, ap_bCons, ap_bNil, lsGet_cons, lsGet_nil, ap_lVar, ap_lFix, ap_C, List.getElem?_cons_succ, List.getElem?_cons_zero, Option.bind_some, Option.map_some, rd_imm, get_slot, get_fix, i0, i1, len_lst, add_int, eqv_int, hz, decide_false, if_false]
      rfl
  -- the end, once the lines are counted
  have fin : ∀ L : List D, L.length = RD.length + OD.length → W (mSeq (mIfS (mTest (mBin (dEqv true) (lFix (mBi dLen (bCons (lVar 4) bNil))) (lFix (mBin dAdd (lFix (mBi dLen (bCons (lFix (mBin dIx (lVar 2) (lFix (mC (.int 0))))) bNil))) (lFix (mBi dLen (bCons (lFix (mBin dIx (lVar 2) (lFix (mC (.int 1))))) bNil)))))))
    (mRet (mC (.bl false)))
    mNext)
    (mSeq (mAsg 5 (mCallV n_read_report 1 m_read_report (cImm (mVar 3) cNil)))
    (mSeq (mIfS (mOr (mNot (mTru (lFix (mBi dIsi (bCons (lVar 5) (bCons (lFix (mC (.typ "tuple"))) bNil)))))) (mOr (mTest (mBin (dEqv true) (lFix (mBi dLen (bCons (lVar 5) bNil))) (lFix (mC (.int 2))))) (mOr (mNot (mTru (lFix (mBi dIsi (bCons (lFix (mBin dIx (lVar 5) (lFix (mC (.int 0))))) (bCons (lFix (mC (.typ "list"))) bNil)))))) (mNot (mTru (lFix (mBi dIsi (bCons (lFix (mBin dIx (lVar 5) (lFix (mC (.int 1))))) (bCons (lFix (mC (.typ "list"))) bNil)))))))))
    (mRet (mC (.bl false)))
    mNext)
    (mSeq (mForS (iAny (mBin dCat (lFix (mBin dIx (lVar 5) (lFix (mC (.int 0))))) (lFix (mBin dIx (lVar 5) (lFix (mC (.int 1))))))) (gN 6)
    (mIfS (mNot (mTru (lFix (mCallV n_law_is_row 1 m_law_is_row (cBor 6 cNil)))))
    (mRet (mC (.bl false)))
    mNext))
    (mSeq (mIfS (mOr (mTest (mBin (dEqv true) (lFix (mBin dIx (lVar 5) (lFix (mC (.int 0))))) (lFix (mBin dIx (lVar 2) (lFix (mC (.int 0))))))) (mTest (mBin (dEqv true) (lFix (mBin dIx (lVar 5) (lFix (mC (.int 1))))) (lFix (mBin dIx (lVar 2) (lFix (mC (.int 1))))))))
    (mRet (mC (.bl false)))
    mNext)
    (mRet (mBin (dEqv false) (lFix (mCallV n_write_report 2 m_write_report (cImm (mBin dIx (lVar 5) (lFix (mC (.int 0)))) (cImm (mBin dIx (lVar 5) (lFix (mC (.int 1)))) cNil)))) (lVar 3))))))))
      [.imm S0, .own b1, .imm RW, .imm (.str T), .imm (.lst L), .un, .un] (fun fl => ∃ env, fl = .ret .imm (.bl true) env) := by
    intro L hL
    have hLi : ((L.length : Nat) : Int) = (RD.length : Int) + (OD.length : Int) := by omega
    have T3 : mTest (mBin (dEqv true) (lFix (mBi dLen (bCons (lVar 4) bNil))) (lFix (mBin dAdd (lFix (mBi dLen (bCons (lFix (mBin dIx (lVar 2) (lFix (mC (.int 0))))) bNil))) (lFix (mBi dLen (bCons (lFix (mBin dIx (lVar 2) (lFix (mC (.int 1))))) bNil)))))) [.imm S0, .own b1, .imm RW, .imm (.str T), .imm (.lst L), .un, .un] = some (false, [.imm S0, .own b1, .imm RW, .imm (.str T), .imm (.lst L), .un, .un]) := by
      simp -implicitDefEqProofs [i0, i1, hLi, -Q.ix_lst]
    rw [W_seq, W_if, T3, Gt_some, if_neg (by simp), W_next, sqK_nx, W_seq, W_asg]
    have D5 : mCallV n_read_report 1 m_read_report (cImm (mVar 3) cNil) [.imm S0, .own b1, .imm RW, .imm (.str T), .imm (.lst L), .un, .un] = some (TD, [.imm S0, .own b1, .imm RW, .imm (.str T), .imm (.lst L), .un, .un]) := by
      simp -implicitDefEqProofs [V_eq, rr]
    rw [D5, Gt_some]
    refine ⟨by show 5 < 7; decide, ?_⟩
    rw [sqK_nx, W_seq]
    show W (mIfS _ _ _) [.imm S0, .own b1, .imm RW, .imm (.str T), .imm (.lst L), .imm TD, .un] _
    have T4 : mOr (mNot (mTru (lFix (mBi dIsi (bCons (lVar 5) (bCons (lFix (mC (.typ "tuple"))) bNil)))))) (mOr (mTest (mBin (dEqv true) (lFix (mBi dLen (bCons (lVar 5) bNil))) (lFix (mC (.int 2))))) (mOr (mNot (mTru (lFix (mBi dIsi (bCons (lFix (mBin dIx (lVar 5) (lFix (mC (.int 0))))) (bCons (lFix (mC (.typ "list"))) bNil)))))) (mNot (mTru (lFix (mBi dIsi (bCons (lFix (mBin dIx (lVar 5) (lFix (mC (.int 1))))) (bCons (lFix (mC (.typ "list"))) bNil)))))))) [.imm S0, .own b1, .imm RW, .imm (.str T), .imm (.lst L), .imm TD, .un] = some (false, [.imm S0, .own b1, .imm RW, .imm (.str T), .imm (.lst L), .imm TD, .un]) := by
      simp -implicitDefEqProofs [it, lt, j0, j1, iR, iO, -Q.ix_lst]
    rw [W_if, T4, Gt_some, if_neg (by simp), W_next, sqK_nx, W_seq]
    have zl : RD.length + OD.length ≤ sizeLine := szS (by omega)
    have I : iAny (mBin dCat (lFix (mBin dIx (lVar 5) (lFix (mC (.int 0))))) (lFix (mBin dIx (lVar 5) (lFix (mC (.int 1)))))) [.imm S0, .own b1, .imm RW, .imm (.str T), .imm (.lst L), .imm TD, .un] = some (RD ++ OD, [.imm S0, .own b1, .imm RW, .imm (.str T), .imm (.lst L), .imm TD, .un]) := by
      simp -implicitDefEqProofs [j0, j1, zl, -Q.ix_lst]
    refine W_for I (fun _ e => ∃ s, e = [.imm S0, .own b1, .imm RW, .imm (.str T), .imm (.lst L), .imm TD, s]) ⟨_, rfl⟩ ?_ ?_
    · rintro i d e hd ⟨s, rfl⟩
      obtain ⟨a, b, c, e, f, rfl⟩ := rw5 d (List.mem_of_getElem? hd)
      have q := row_res a b c e f
      generalize D.tup [a, b, c, e, f] = row at q ⊢
      refine ⟨[.imm S0, .own b1, .imm RW, .imm (.str T), .imm (.lst L), .imm TD, .imm row], by simp -implicitDefEqProofs, ?_⟩
      have T6 : mNot (mTru (lFix (mCallV n_law_is_row 1 m_law_is_row (cBor 6 cNil)))) [.imm S0, .own b1, .imm RW, .imm (.str T), .imm (.lst L), .imm TD, .imm row] = some (false, [.imm S0, .own b1, .imm RW, .imm (.str T), .imm (.lst L), .imm TD, .imm row]) := by
        simp -implicitDefEqProofs [V_eq, q]
      rw [W_if, T6, Gt_some, if_neg (by simp), W_next, lp_nx]
      exact ⟨_, rfl⟩
    · rintro e ⟨s, rfl⟩
      rw [sqK_nx, W_seq]
      have T7 : mOr (mTest (mBin (dEqv true) (lFix (mBin dIx (lVar 5) (lFix (mC (.int 0))))) (lFix (mBin dIx (lVar 2) (lFix (mC (.int 0))))))) (mTest (mBin (dEqv true) (lFix (mBin dIx (lVar 5) (lFix (mC (.int 1))))) (lFix (mBin dIx (lVar 2) (lFix (mC (.int 1))))))) [.imm S0, .own b1, .imm RW, .imm (.str T), .imm (.lst L), .imm TD, s] = some (false, [.imm S0, .own b1, .imm RW, .imm (.str T), .imm (.lst L), .imm TD, s]) := by
        simp -implicitDefEqProofs [i0, i1, j0, j1, eR, eO, -Q.ix_lst]
      rw [W_if, T7, Gt_some, if_neg (by simp), W_next, sqK_nx, W_ret]
      have D8 : mBin (dEqv false) (lFix (mCallV n_write_report 2 m_write_report (cImm (mBin dIx (lVar 5) (lFix (mC (.int 0)))) (cImm (mBin dIx (lVar 5) (lFix (mC (.int 1)))) cNil)))) (lVar 3) [.imm S0, .own b1, .imm RW, .imm (.str T), .imm (.lst L), .imm TD, s] = some (.bl true, [.imm S0, .own b1, .imm RW, .imm (.str T), .imm (.lst L), .imm TD, s]) := by
        simp -implicitDefEqProofs [V_eq, j0, j1, wr, -Q.ix_lst]
      rw [D8, Gt_some]
      exact ⟨_, rfl⟩
  rw [W_if, T2, Gt_some]
  rcases hX with ⟨h0, hTe⟩ | ⟨h0, hXl⟩
  · have hz : (RD.length : Int) + (OD.length : Int) = 0 := by omega
    rw [if_pos (by simpa using hz), W_seq, W_asg, Lst_0, Gt_some]
    refine ⟨by show 4 < 7; decide, ?_⟩
    rw [sqK_nx]
    show W (mIfS _ _ _) [.imm S0, .own b1, .imm RW, .imm (.str T), .imm (.lst []), .un, .un] _
    have T9 : mTest (mBin (dEqv true) (lVar 3) (lFix (mC (.str (tx []))))) [.imm S0, .own b1, .imm RW, .imm (.str T), .imm (.lst []), .un, .un] = some (false, [.imm S0, .own b1, .imm RW, .imm (.str T), .imm (.lst []), .un, .un]) := by
      rw [hTe]; simp -implicitDefEqProofs
    rw [W_if, T9, Gt_some, if_neg (by simp), W_next, sqK_nx]
    exact fin [] (by show 0 = _; omega)
  · have hz : ¬ (RD.length : Int) + (OD.length : Int) = 0 := by omega
    rw [if_neg (by simpa using hz), W_next, sqK_nx]
    exact fin X hXl
end Law
namespace Law
open PySem L2 Q
def spLaw (K : PySem.W.Frag) : Sp := fun vs H Q _ => ∃ (a : Addr) (ns : List Int), vs = [.ref a] ∧ SqL K H a (ns.map V.int) ∧ ns.length ≤ 63 ∧ ∀ H', Q (.bl true) H'
section
theorem all_mk {l : PySem.W.OpenLaw} {w : World} {K : PySem.W.Frag} {h : Heap} {mg : Str → Option Value} {fa f_law_cell f_law_digits f_law_draw f_law_place f_law_number f_law_robot f_law_order f_law_told f_write_place f_write_robot f_write_order f_write_report f_read_number f_read_place f_read_share f_read_way f_read_errand f_read_robot f_read_order_state f_is_letter f_read_order_row f_read_report f_law_is_row f_law : Addr} (X : K.In h) (G : h.Ns mainGlobals mg) (hfa : mg "law" = some (.ref fa))
    {od_law_cell an_law_cell od_law_digits an_law_digits od_law_draw an_law_draw od_law_place an_law_place od_law_number an_law_number od_law_robot an_law_robot od_law_order an_law_order od_law_told an_law_told od_write_place an_write_place od_write_robot an_write_robot od_write_order an_write_order od_write_report an_write_report od_read_number an_read_number od_read_place an_read_place od_read_share an_read_share od_read_way an_read_way od_read_errand an_read_errand od_read_robot an_read_robot od_read_order_state an_read_order_state od_is_letter an_is_letter od_read_order_row an_read_order_row od_read_report an_read_report od_law_is_row an_law_is_row od_law an_law : Option Addr} {sl_law_cell sl_law_digits sl_law_draw sl_law_place sl_law_number sl_law_robot sl_law_order sl_law_told sl_write_place sl_write_robot sl_write_order sl_write_report sl_read_number sl_read_place sl_read_share sl_read_way sl_read_errand sl_read_robot sl_read_order_state sl_is_letter sl_read_order_row sl_read_report sl_law_is_row sl_law : Array (Option Value)} {oc_law_cell kv_law_cell dc_law_cell pm_law_cell cd_law_cell ct_law_cell oc_law_digits kv_law_digits dc_law_digits pm_law_digits cd_law_digits ct_law_digits oc_law_draw kv_law_draw dc_law_draw pm_law_draw cd_law_draw ct_law_draw oc_law_place kv_law_place dc_law_place pm_law_place cd_law_place ct_law_place oc_law_number kv_law_number dc_law_number pm_law_number cd_law_number ct_law_number oc_law_robot kv_law_robot dc_law_robot pm_law_robot cd_law_robot ct_law_robot oc_law_order kv_law_order dc_law_order pm_law_order cd_law_order ct_law_order oc_law_told kv_law_told dc_law_told pm_law_told cd_law_told ct_law_told oc_write_place kv_write_place dc_write_place pm_write_place cd_write_place ct_write_place oc_write_robot kv_write_robot dc_write_robot pm_write_robot cd_write_robot ct_write_robot oc_write_order kv_write_order dc_write_order pm_write_order cd_write_order ct_write_order oc_write_report kv_write_report dc_write_report pm_write_report cd_write_report ct_write_report oc_read_number kv_read_number dc_read_number pm_read_number cd_read_number ct_read_number oc_read_place kv_read_place dc_read_place pm_read_place cd_read_place ct_read_place oc_read_share kv_read_share dc_read_share pm_read_share cd_read_share ct_read_share oc_read_way kv_read_way dc_read_way pm_read_way cd_read_way ct_read_way oc_read_errand kv_read_errand dc_read_errand pm_read_errand cd_read_errand ct_read_errand oc_read_robot kv_read_robot dc_read_robot pm_read_robot cd_read_robot ct_read_robot oc_read_order_state kv_read_order_state dc_read_order_state pm_read_order_state cd_read_order_state ct_read_order_state oc_is_letter kv_is_letter dc_is_letter pm_is_letter cd_is_letter ct_is_letter oc_read_order_row kv_read_order_row dc_read_order_row pm_read_order_row cd_read_order_row ct_read_order_row oc_read_report kv_read_report dc_read_report pm_read_report cd_read_report ct_read_report oc_law_is_row kv_law_is_row dc_law_is_row pm_law_is_row cd_law_is_row ct_law_is_row oc_law kv_law dc_law pm_law cd_law ct_law : Value} {t_FIGURES t_MOST_FIGURES t_STATIONS : Tok} {Cc_read_number Pp_read_number : Addr} {vc_read_number : Value} {vd_read_number : Option Addr} {vs_read_number : Array Value} {vl_read_number : Array (Option Value)}
    (nb_any : PySem.W.nsIn K mainGlobals "any" = some none)
    (nb_enumerate : PySem.W.nsIn K mainGlobals "enumerate" = some none)
    (nb_int : PySem.W.nsIn K mainGlobals "int" = some none)
    (nb_isinstance : PySem.W.nsIn K mainGlobals "isinstance" = some none)
    (nb_len : PySem.W.nsIn K mainGlobals "len" = some none)
    (nb_list : PySem.W.nsIn K mainGlobals "list" = some none)
    (nb_range : PySem.W.nsIn K mainGlobals "range" = some none)
    (nb_str : PySem.W.nsIn K mainGlobals "str" = some none)
    (nb_tuple : PySem.W.nsIn K mainGlobals "tuple" = some none)
    (kk_FIGURES : PySem.W.nsIn K mainGlobals "FIGURES" = some (some (.str "0123456789" t_FIGURES)))
    (kk_MOST_FIGURES : PySem.W.nsIn K mainGlobals "MOST_FIGURES" = some (some (.int 6 t_MOST_FIGURES)))
    (kk_STATIONS : PySem.W.nsIn K mainGlobals "STATIONS" = some (some (.str "ABCDEFGH" t_STATIONS)))
    (a_law_cell : PySem.W.nsIn K mainGlobals "_law_cell" = some (some (.ref f_law_cell)))
    (l_law_cell : K.lookup f_law_cell = some ⟨oc_law_cell, od_law_cell, .func (PySem.W.fnOf "_law_cell" "_law_cell" (defArgs s_law_cell) (defBody s_law_cell) (defScope s_law_cell) .none kv_law_cell dc_law_cell pm_law_cell an_law_cell cd_law_cell ct_law_cell), sl_law_cell⟩)
    (c_law_cell : PySem.W.codeIn K cd_law_cell "_law_cell" = true)
    (k_law_cell : PySem.W.keepIn K (.ref f_law_cell) = true)
    (a_law_digits : PySem.W.nsIn K mainGlobals "_law_digits" = some (some (.ref f_law_digits)))
    (l_law_digits : K.lookup f_law_digits = some ⟨oc_law_digits, od_law_digits, .func (PySem.W.fnOf "_law_digits" "_law_digits" (defArgs s_law_digits) (defBody s_law_digits) (defScope s_law_digits) .none kv_law_digits dc_law_digits pm_law_digits an_law_digits cd_law_digits ct_law_digits), sl_law_digits⟩)
    (c_law_digits : PySem.W.codeIn K cd_law_digits "_law_digits" = true)
    (k_law_digits : PySem.W.keepIn K (.ref f_law_digits) = true)
    (a_law_draw : PySem.W.nsIn K mainGlobals "_law_draw" = some (some (.ref f_law_draw)))
    (l_law_draw : K.lookup f_law_draw = some ⟨oc_law_draw, od_law_draw, .func (PySem.W.fnOf "_law_draw" "_law_draw" (defArgs s_law_draw) (defBody s_law_draw) (defScope s_law_draw) .none kv_law_draw dc_law_draw pm_law_draw an_law_draw cd_law_draw ct_law_draw), sl_law_draw⟩)
    (c_law_draw : PySem.W.codeIn K cd_law_draw "_law_draw" = true)
    (k_law_draw : PySem.W.keepIn K (.ref f_law_draw) = true)
    (a_law_place : PySem.W.nsIn K mainGlobals "_law_place" = some (some (.ref f_law_place)))
    (l_law_place : K.lookup f_law_place = some ⟨oc_law_place, od_law_place, .func (PySem.W.fnOf "_law_place" "_law_place" (defArgs s_law_place) (defBody s_law_place) (defScope s_law_place) .none kv_law_place dc_law_place pm_law_place an_law_place cd_law_place ct_law_place), sl_law_place⟩)
    (c_law_place : PySem.W.codeIn K cd_law_place "_law_place" = true)
    (k_law_place : PySem.W.keepIn K (.ref f_law_place) = true)
    (a_law_number : PySem.W.nsIn K mainGlobals "_law_number" = some (some (.ref f_law_number)))
    (l_law_number : K.lookup f_law_number = some ⟨oc_law_number, od_law_number, .func (PySem.W.fnOf "_law_number" "_law_number" (defArgs s_law_number) (defBody s_law_number) (defScope s_law_number) .none kv_law_number dc_law_number pm_law_number an_law_number cd_law_number ct_law_number), sl_law_number⟩)
    (c_law_number : PySem.W.codeIn K cd_law_number "_law_number" = true)
    (k_law_number : PySem.W.keepIn K (.ref f_law_number) = true)
    (a_law_robot : PySem.W.nsIn K mainGlobals "_law_robot" = some (some (.ref f_law_robot)))
    (l_law_robot : K.lookup f_law_robot = some ⟨oc_law_robot, od_law_robot, .func (PySem.W.fnOf "_law_robot" "_law_robot" (defArgs s_law_robot) (defBody s_law_robot) (defScope s_law_robot) .none kv_law_robot dc_law_robot pm_law_robot an_law_robot cd_law_robot ct_law_robot), sl_law_robot⟩)
    (c_law_robot : PySem.W.codeIn K cd_law_robot "_law_robot" = true)
    (k_law_robot : PySem.W.keepIn K (.ref f_law_robot) = true)
    (a_law_order : PySem.W.nsIn K mainGlobals "_law_order" = some (some (.ref f_law_order)))
    (l_law_order : K.lookup f_law_order = some ⟨oc_law_order, od_law_order, .func (PySem.W.fnOf "_law_order" "_law_order" (defArgs s_law_order) (defBody s_law_order) (defScope s_law_order) .none kv_law_order dc_law_order pm_law_order an_law_order cd_law_order ct_law_order), sl_law_order⟩)
    (c_law_order : PySem.W.codeIn K cd_law_order "_law_order" = true)
    (k_law_order : PySem.W.keepIn K (.ref f_law_order) = true)
    (a_law_told : PySem.W.nsIn K mainGlobals "_law_told" = some (some (.ref f_law_told)))
    (l_law_told : K.lookup f_law_told = some ⟨oc_law_told, od_law_told, .func (PySem.W.fnOf "_law_told" "_law_told" (defArgs s_law_told) (defBody s_law_told) (defScope s_law_told) .none kv_law_told dc_law_told pm_law_told an_law_told cd_law_told ct_law_told), sl_law_told⟩)
    (c_law_told : PySem.W.codeIn K cd_law_told "_law_told" = true)
    (k_law_told : PySem.W.keepIn K (.ref f_law_told) = true)
    (a_write_place : PySem.W.nsIn K mainGlobals "write_place" = some (some (.ref f_write_place)))
    (l_write_place : K.lookup f_write_place = some ⟨oc_write_place, od_write_place, .func (PySem.W.fnOf "write_place" "write_place" (defArgs s_write_place) (defBody s_write_place) (defScope s_write_place) .none kv_write_place dc_write_place pm_write_place an_write_place cd_write_place ct_write_place), sl_write_place⟩)
    (c_write_place : PySem.W.codeIn K cd_write_place "write_place" = true)
    (k_write_place : PySem.W.keepIn K (.ref f_write_place) = true)
    (a_write_robot : PySem.W.nsIn K mainGlobals "write_robot" = some (some (.ref f_write_robot)))
    (l_write_robot : K.lookup f_write_robot = some ⟨oc_write_robot, od_write_robot, .func (PySem.W.fnOf "write_robot" "write_robot" (defArgs s_write_robot) (defBody s_write_robot) (defScope s_write_robot) .none kv_write_robot dc_write_robot pm_write_robot an_write_robot cd_write_robot ct_write_robot), sl_write_robot⟩)
    (c_write_robot : PySem.W.codeIn K cd_write_robot "write_robot" = true)
    (k_write_robot : PySem.W.keepIn K (.ref f_write_robot) = true)
    (a_write_order : PySem.W.nsIn K mainGlobals "write_order" = some (some (.ref f_write_order)))
    (l_write_order : K.lookup f_write_order = some ⟨oc_write_order, od_write_order, .func (PySem.W.fnOf "write_order" "write_order" (defArgs s_write_order) (defBody s_write_order) (defScope s_write_order) .none kv_write_order dc_write_order pm_write_order an_write_order cd_write_order ct_write_order), sl_write_order⟩)
    (c_write_order : PySem.W.codeIn K cd_write_order "write_order" = true)
    (k_write_order : PySem.W.keepIn K (.ref f_write_order) = true)
    (a_write_report : PySem.W.nsIn K mainGlobals "write_report" = some (some (.ref f_write_report)))
    (l_write_report : K.lookup f_write_report = some ⟨oc_write_report, od_write_report, .func (PySem.W.fnOf "write_report" "write_report" (defArgs s_write_report) (defBody s_write_report) (defScope s_write_report) .none kv_write_report dc_write_report pm_write_report an_write_report cd_write_report ct_write_report), sl_write_report⟩)
    (c_write_report : PySem.W.codeIn K cd_write_report "write_report" = true)
    (k_write_report : PySem.W.keepIn K (.ref f_write_report) = true)
    (a_read_number : PySem.W.nsIn K mainGlobals "read_number" = some (some (.ref f_read_number)))
    (l_read_number : K.lookup f_read_number = some ⟨oc_read_number, od_read_number, .func (PySem.W.fnOf "read_number" "read_number" (defArgs s_read_number) (defBody s_read_number) (defScope s_read_number) .none kv_read_number dc_read_number pm_read_number an_read_number cd_read_number ct_read_number), sl_read_number⟩)
    (c_read_number : PySem.W.codeIn K cd_read_number "read_number" = true)
    (k_read_number : PySem.W.keepIn K (.ref f_read_number) = true)
    (a_read_place : PySem.W.nsIn K mainGlobals "read_place" = some (some (.ref f_read_place)))
    (l_read_place : K.lookup f_read_place = some ⟨oc_read_place, od_read_place, .func (PySem.W.fnOf "read_place" "read_place" (defArgs s_read_place) (defBody s_read_place) (defScope s_read_place) .none kv_read_place dc_read_place pm_read_place an_read_place cd_read_place ct_read_place), sl_read_place⟩)
    (c_read_place : PySem.W.codeIn K cd_read_place "read_place" = true)
    (k_read_place : PySem.W.keepIn K (.ref f_read_place) = true)
    (a_read_share : PySem.W.nsIn K mainGlobals "read_share" = some (some (.ref f_read_share)))
    (l_read_share : K.lookup f_read_share = some ⟨oc_read_share, od_read_share, .func (PySem.W.fnOf "read_share" "read_share" (defArgs s_read_share) (defBody s_read_share) (defScope s_read_share) .none kv_read_share dc_read_share pm_read_share an_read_share cd_read_share ct_read_share), sl_read_share⟩)
    (c_read_share : PySem.W.codeIn K cd_read_share "read_share" = true)
    (k_read_share : PySem.W.keepIn K (.ref f_read_share) = true)
    (a_read_way : PySem.W.nsIn K mainGlobals "read_way" = some (some (.ref f_read_way)))
    (l_read_way : K.lookup f_read_way = some ⟨oc_read_way, od_read_way, .func (PySem.W.fnOf "read_way" "read_way" (defArgs s_read_way) (defBody s_read_way) (defScope s_read_way) .none kv_read_way dc_read_way pm_read_way an_read_way cd_read_way ct_read_way), sl_read_way⟩)
    (c_read_way : PySem.W.codeIn K cd_read_way "read_way" = true)
    (k_read_way : PySem.W.keepIn K (.ref f_read_way) = true)
    (a_read_errand : PySem.W.nsIn K mainGlobals "read_errand" = some (some (.ref f_read_errand)))
    (l_read_errand : K.lookup f_read_errand = some ⟨oc_read_errand, od_read_errand, .func (PySem.W.fnOf "read_errand" "read_errand" (defArgs s_read_errand) (defBody s_read_errand) (defScope s_read_errand) .none kv_read_errand dc_read_errand pm_read_errand an_read_errand cd_read_errand ct_read_errand), sl_read_errand⟩)
    (c_read_errand : PySem.W.codeIn K cd_read_errand "read_errand" = true)
    (k_read_errand : PySem.W.keepIn K (.ref f_read_errand) = true)
    (a_read_robot : PySem.W.nsIn K mainGlobals "read_robot" = some (some (.ref f_read_robot)))
    (l_read_robot : K.lookup f_read_robot = some ⟨oc_read_robot, od_read_robot, .func (PySem.W.fnOf "read_robot" "read_robot" (defArgs s_read_robot) (defBody s_read_robot) (defScope s_read_robot) .none kv_read_robot dc_read_robot pm_read_robot an_read_robot cd_read_robot ct_read_robot), sl_read_robot⟩)
    (c_read_robot : PySem.W.codeIn K cd_read_robot "read_robot" = true)
    (k_read_robot : PySem.W.keepIn K (.ref f_read_robot) = true)
    (a_read_order_state : PySem.W.nsIn K mainGlobals "read_order_state" = some (some (.ref f_read_order_state)))
    (l_read_order_state : K.lookup f_read_order_state = some ⟨oc_read_order_state, od_read_order_state, .func (PySem.W.fnOf "read_order_state" "read_order_state" (defArgs s_read_order_state) (defBody s_read_order_state) (defScope s_read_order_state) .none kv_read_order_state dc_read_order_state pm_read_order_state an_read_order_state cd_read_order_state ct_read_order_state), sl_read_order_state⟩)
    (c_read_order_state : PySem.W.codeIn K cd_read_order_state "read_order_state" = true)
    (k_read_order_state : PySem.W.keepIn K (.ref f_read_order_state) = true)
    (a_is_letter : PySem.W.nsIn K mainGlobals "is_letter" = some (some (.ref f_is_letter)))
    (l_is_letter : K.lookup f_is_letter = some ⟨oc_is_letter, od_is_letter, .func (PySem.W.fnOf "is_letter" "is_letter" (defArgs s_is_letter) (defBody s_is_letter) (defScope s_is_letter) .none kv_is_letter dc_is_letter pm_is_letter an_is_letter cd_is_letter ct_is_letter), sl_is_letter⟩)
    (c_is_letter : PySem.W.codeIn K cd_is_letter "is_letter" = true)
    (k_is_letter : PySem.W.keepIn K (.ref f_is_letter) = true)
    (a_read_order_row : PySem.W.nsIn K mainGlobals "read_order_row" = some (some (.ref f_read_order_row)))
    (l_read_order_row : K.lookup f_read_order_row = some ⟨oc_read_order_row, od_read_order_row, .func (PySem.W.fnOf "read_order_row" "read_order_row" (defArgs s_read_order_row) (defBody s_read_order_row) (defScope s_read_order_row) .none kv_read_order_row dc_read_order_row pm_read_order_row an_read_order_row cd_read_order_row ct_read_order_row), sl_read_order_row⟩)
    (c_read_order_row : PySem.W.codeIn K cd_read_order_row "read_order_row" = true)
    (k_read_order_row : PySem.W.keepIn K (.ref f_read_order_row) = true)
    (a_read_report : PySem.W.nsIn K mainGlobals "read_report" = some (some (.ref f_read_report)))
    (l_read_report : K.lookup f_read_report = some ⟨oc_read_report, od_read_report, .func (PySem.W.fnOf "read_report" "read_report" (defArgs s_read_report) (defBody s_read_report) (defScope s_read_report) .none kv_read_report dc_read_report pm_read_report an_read_report cd_read_report ct_read_report), sl_read_report⟩)
    (c_read_report : PySem.W.codeIn K cd_read_report "read_report" = true)
    (k_read_report : PySem.W.keepIn K (.ref f_read_report) = true)
    (a_law_is_row : PySem.W.nsIn K mainGlobals "_law_is_row" = some (some (.ref f_law_is_row)))
    (l_law_is_row : K.lookup f_law_is_row = some ⟨oc_law_is_row, od_law_is_row, .func (PySem.W.fnOf "_law_is_row" "_law_is_row" (defArgs s_law_is_row) (defBody s_law_is_row) (defScope s_law_is_row) .none kv_law_is_row dc_law_is_row pm_law_is_row an_law_is_row cd_law_is_row ct_law_is_row), sl_law_is_row⟩)
    (c_law_is_row : PySem.W.codeIn K cd_law_is_row "_law_is_row" = true)
    (k_law_is_row : PySem.W.keepIn K (.ref f_law_is_row) = true)
    (a_law : PySem.W.nsIn K mainGlobals "law" = some (some (.ref f_law)))
    (l_law : K.lookup f_law = some ⟨oc_law, od_law, .func (PySem.W.fnOf "law" "law" (defArgs s_law) (defBody s_law) (defScope s_law) .none kv_law dc_law pm_law an_law cd_law ct_law), sl_law⟩)
    (c_law : PySem.W.codeIn K cd_law "law" = true)
    (k_law : PySem.W.keepIn K (.ref f_law) = true)
    (te_read_number : cd_read_number = .ref Cc_read_number)
    (tv_read_number : K.lookup Cc_read_number = some ⟨vc_read_number, vd_read_number, .fields vs_read_number, vl_read_number⟩)
    (tp_read_number : vs_read_number[11]? = some (.ref Pp_read_number))
    (tt_no : PySem.W.noTabs K = true) :
    ∃ fd : FuncData, (∀ (s : Shared) (v : Value), BindsTo s fd ⟨[v], []⟩ [("script", v)]) ∧ ∀ base : Heap, K.In base → base.Ns mainGlobals mg → (∀ p ∈ ([(Cc_read_number, Pp_read_number)] : List (Addr × Addr)), GxR.TabB base mg p.1 p.2) → FnG l.prog w K mg base CX0 9 fa fd ["script"] (SpG K [(Cc_read_number, Pp_read_number)] 63) := by
  have e := hfa.symm.trans (PySem.W.mg_of X G a_law)
  cases e
  refine ⟨PySem.W.fnOf "law" "law" (defArgs s_law) (defBody s_law) (defScope s_law) .none kv_law dc_law pm_law an_law cd_law ct_law, fun s v => .of_eq rfl, fun base _ _ hTBs => ?_⟩
  let c : Pc := ⟨l.prog, w, K, mg, base, fun s => if s = tabKey "read_number" then some Pp_read_number else (fun _ => none) s⟩
  have T : Txt c := {
    b_any := PySem.W.mg_none_of X G nb_any,
    b_enumerate := PySem.W.mg_none_of X G nb_enumerate,
    b_int := PySem.W.mg_none_of X G nb_int,
    b_isinstance := PySem.W.mg_none_of X G nb_isinstance,
    b_len := PySem.W.mg_none_of X G nb_len,
    b_list := PySem.W.mg_none_of X G nb_list,
    b_range := PySem.W.mg_none_of X G nb_range,
    b_str := PySem.W.mg_none_of X G nb_str,
    b_tuple := PySem.W.mg_none_of X G nb_tuple,
    c_FIGURES := ⟨_, PySem.W.mg_of X G kk_FIGURES⟩,
    c_MOST_FIGURES := ⟨_, PySem.W.mg_of X G kk_MOST_FIGURES⟩,
    c_STATIONS := ⟨_, PySem.W.mg_of X G kk_STATIONS⟩ }
  have hP_read_number : IsTab c.cl Pp_read_number := ⟨"read_number", by simp (config := { decide := true }) [c, tabKey]⟩
  have hTB_read_number : GxR.TabB c.base c.mg Cc_read_number Pp_read_number := hTBs (Cc_read_number, Pp_read_number) (by simp)
  have tt_read_number : PySem.W.tabIn K "read_number" = some (Cc_read_number, Pp_read_number) := tabIn_of a_read_number l_read_number te_read_number tv_read_number tp_read_number
  have hco_read_number := PySem.W.law_code X G tt_read_number (PySem.W.mg_of X G a_read_number) (X _ _ l_read_number) rfl
  have G_law_cell := g_law_cell (c := c) T (fun_mk (st := s_law_cell) l_law_cell c_law_cell k_law_cell) (PySem.W.mg_of X G a_law_cell)
  have G_law_digits := g_law_digits (c := c) T (fun_mk (st := s_law_digits) l_law_digits c_law_digits k_law_digits) (PySem.W.mg_of X G a_law_digits) G_law_cell
  have G_law_draw := g_law_draw (c := c) T (fun_mk (st := s_law_draw) l_law_draw c_law_draw k_law_draw) (PySem.W.mg_of X G a_law_draw)
  have G_law_place := g_law_place (c := c) T (fun_mk (st := s_law_place) l_law_place c_law_place k_law_place) (PySem.W.mg_of X G a_law_place) G_law_draw
  have G_law_number := g_law_number (c := c) T (fun_mk (st := s_law_number) l_law_number c_law_number k_law_number) (PySem.W.mg_of X G a_law_number) G_law_draw
  have G_law_robot := g_law_robot (c := c) T (fun_mk (st := s_law_robot) l_law_robot c_law_robot k_law_robot) (PySem.W.mg_of X G a_law_robot) G_law_draw G_law_place G_law_number
  have G_law_order := g_law_order (c := c) T (fun_mk (st := s_law_order) l_law_order c_law_order k_law_order) (PySem.W.mg_of X G a_law_order) G_law_draw G_law_number
  have G_law_told := g_law_told (c := c) T (fun_mk (st := s_law_told) l_law_told c_law_told k_law_told) (PySem.W.mg_of X G a_law_told) G_law_draw G_law_robot G_law_order
  have G_write_place := g_write_place (c := c) T (fun_mk (st := s_write_place) l_write_place c_write_place k_write_place) (PySem.W.mg_of X G a_write_place)
  have G_write_robot := g_write_robot (c := c) T (fun_mk (st := s_write_robot) l_write_robot c_write_robot k_write_robot) (PySem.W.mg_of X G a_write_robot) G_write_place
  have G_write_order := g_write_order (c := c) T (fun_mk (st := s_write_order) l_write_order c_write_order k_write_order) (PySem.W.mg_of X G a_write_order)
  have G_write_report := g_write_report (c := c) T (fun_mk (st := s_write_report) l_write_report c_write_report k_write_report) (PySem.W.mg_of X G a_write_report) G_write_robot G_write_order
  have G_read_number := g_read_number (c := c) T hP_read_number hco_read_number hTB_read_number (fun_mk (st := s_read_number) l_read_number c_read_number k_read_number) (PySem.W.mg_of X G a_read_number)
  have G_read_place := g_read_place (c := c) T (fun_mk (st := s_read_place) l_read_place c_read_place k_read_place) (PySem.W.mg_of X G a_read_place) G_read_number
  have G_read_share := g_read_share (c := c) T (fun_mk (st := s_read_share) l_read_share c_read_share k_read_share) (PySem.W.mg_of X G a_read_share) G_read_number
  have G_read_way := g_read_way (c := c) T (fun_mk (st := s_read_way) l_read_way c_read_way k_read_way) (PySem.W.mg_of X G a_read_way) G_read_place
  have G_read_errand := g_read_errand (c := c) T (fun_mk (st := s_read_errand) l_read_errand c_read_errand k_read_errand) (PySem.W.mg_of X G a_read_errand) G_read_share G_read_way
  have G_read_robot := g_read_robot (c := c) T (fun_mk (st := s_read_robot) l_read_robot c_read_robot k_read_robot) (PySem.W.mg_of X G a_read_robot) G_read_number G_read_place G_read_errand
  have G_read_order_state := g_read_order_state (c := c) T (fun_mk (st := s_read_order_state) l_read_order_state c_read_order_state k_read_order_state) (PySem.W.mg_of X G a_read_order_state) G_read_share
  have G_is_letter := g_is_letter (c := c) T (fun_mk (st := s_is_letter) l_is_letter c_is_letter k_is_letter) (PySem.W.mg_of X G a_is_letter)
  have G_read_order_row := g_read_order_row (c := c) T (fun_mk (st := s_read_order_row) l_read_order_row c_read_order_row k_read_order_row) (PySem.W.mg_of X G a_read_order_row) G_read_number G_read_order_state G_is_letter
  have G_read_report := g_read_report (c := c) T (fun_mk (st := s_read_report) l_read_report c_read_report k_read_report) (PySem.W.mg_of X G a_read_report) G_read_robot G_read_order_row
  have G_law_is_row := g_law_is_row (c := c) T (fun_mk (st := s_law_is_row) l_law_is_row c_law_is_row k_law_is_row) (PySem.W.mg_of X G a_law_is_row)
  have L := fn_ok (P := l.prog) (w := w) (K := K) (mg := mg) (base := base) (cl := c.cl) (k := 8) (fun_mk (st := s_law) l_law c_law k_law) sc_law (b_law (c := c) T G_law_digits G_law_told G_write_report G_read_report G_law_is_row)
  refine L.imp fun vs H Q E hs => ?_
  obtain ⟨a, ns, rfl, hTabs, ⟨J, hJ, hJt, hS⟩, hl, hQ⟩ := hs
  obtain ⟨env, he⟩ := law_true ns hl
  have isT : ∀ b, IsTab c.cl b → ∃ p ∈ ([(Cc_read_number, Pp_read_number)] : List (Addr × Addr)), b = p.2 := fun b hb => by
    obtain ⟨x, hx⟩ := hb
    simp only [c] at hx
    split at hx
    · cases hx; exact ⟨(Cc_read_number, Pp_read_number), by simp, rfl⟩
    cases hx
  exact spLaw_of (md := .imm) rfl (fun b hb => by obtain ⟨p, hp, rfl⟩ := isT b hb; exact hTabs p hp) ⟨J, hJ, (fun b hb => by obtain ⟨p, hp, rfl⟩ := isT b hb; exact hJt p hp), hS⟩ he hQ
theorem all_mk2 {q : Program} {l : PySem.W.OpenLaw} {w : World} {K : PySem.W.Frag} {h : Heap} {mg : Str → Option Value} {fa f_law_cell f_law_digits f_law_draw f_law_place f_law_number f_law_robot f_law_order f_law_told f_write_place f_write_robot f_write_order f_write_report f_read_number f_read_place f_read_share f_read_way f_read_errand f_read_robot f_read_order_state f_is_letter f_read_order_row f_read_report f_law_is_row f_law : Addr} (X : K.In h) (G : h.Ns mainGlobals mg) (hfa : mg "law" = some (.ref fa))
    {od_law_cell an_law_cell od_law_digits an_law_digits od_law_draw an_law_draw od_law_place an_law_place od_law_number an_law_number od_law_robot an_law_robot od_law_order an_law_order od_law_told an_law_told od_write_place an_write_place od_write_robot an_write_robot od_write_order an_write_order od_write_report an_write_report od_read_number an_read_number od_read_place an_read_place od_read_share an_read_share od_read_way an_read_way od_read_errand an_read_errand od_read_robot an_read_robot od_read_order_state an_read_order_state od_is_letter an_is_letter od_read_order_row an_read_order_row od_read_report an_read_report od_law_is_row an_law_is_row od_law an_law : Option Addr} {sl_law_cell sl_law_digits sl_law_draw sl_law_place sl_law_number sl_law_robot sl_law_order sl_law_told sl_write_place sl_write_robot sl_write_order sl_write_report sl_read_number sl_read_place sl_read_share sl_read_way sl_read_errand sl_read_robot sl_read_order_state sl_is_letter sl_read_order_row sl_read_report sl_law_is_row sl_law : Array (Option Value)} {oc_law_cell kv_law_cell dc_law_cell pm_law_cell cd_law_cell ct_law_cell oc_law_digits kv_law_digits dc_law_digits pm_law_digits cd_law_digits ct_law_digits oc_law_draw kv_law_draw dc_law_draw pm_law_draw cd_law_draw ct_law_draw oc_law_place kv_law_place dc_law_place pm_law_place cd_law_place ct_law_place oc_law_number kv_law_number dc_law_number pm_law_number cd_law_number ct_law_number oc_law_robot kv_law_robot dc_law_robot pm_law_robot cd_law_robot ct_law_robot oc_law_order kv_law_order dc_law_order pm_law_order cd_law_order ct_law_order oc_law_told kv_law_told dc_law_told pm_law_told cd_law_told ct_law_told oc_write_place kv_write_place dc_write_place pm_write_place cd_write_place ct_write_place oc_write_robot kv_write_robot dc_write_robot pm_write_robot cd_write_robot ct_write_robot oc_write_order kv_write_order dc_write_order pm_write_order cd_write_order ct_write_order oc_write_report kv_write_report dc_write_report pm_write_report cd_write_report ct_write_report oc_read_number kv_read_number dc_read_number pm_read_number cd_read_number ct_read_number oc_read_place kv_read_place dc_read_place pm_read_place cd_read_place ct_read_place oc_read_share kv_read_share dc_read_share pm_read_share cd_read_share ct_read_share oc_read_way kv_read_way dc_read_way pm_read_way cd_read_way ct_read_way oc_read_errand kv_read_errand dc_read_errand pm_read_errand cd_read_errand ct_read_errand oc_read_robot kv_read_robot dc_read_robot pm_read_robot cd_read_robot ct_read_robot oc_read_order_state kv_read_order_state dc_read_order_state pm_read_order_state cd_read_order_state ct_read_order_state oc_is_letter kv_is_letter dc_is_letter pm_is_letter cd_is_letter ct_is_letter oc_read_order_row kv_read_order_row dc_read_order_row pm_read_order_row cd_read_order_row ct_read_order_row oc_read_report kv_read_report dc_read_report pm_read_report cd_read_report ct_read_report oc_law_is_row kv_law_is_row dc_law_is_row pm_law_is_row cd_law_is_row ct_law_is_row oc_law kv_law dc_law pm_law cd_law ct_law : Value} {t_FIGURES t_MOST_FIGURES t_STATIONS : Tok} {Cc_read_number Pp_read_number : Addr} {vc_read_number : Value} {vd_read_number : Option Addr} {vs_read_number : Array Value} {vl_read_number : Array (Option Value)}
    (nb_any : PySem.W.nsIn K mainGlobals "any" = some none)
    (nb_enumerate : PySem.W.nsIn K mainGlobals "enumerate" = some none)
    (nb_int : PySem.W.nsIn K mainGlobals "int" = some none)
    (nb_isinstance : PySem.W.nsIn K mainGlobals "isinstance" = some none)
    (nb_len : PySem.W.nsIn K mainGlobals "len" = some none)
    (nb_list : PySem.W.nsIn K mainGlobals "list" = some none)
    (nb_range : PySem.W.nsIn K mainGlobals "range" = some none)
    (nb_str : PySem.W.nsIn K mainGlobals "str" = some none)
    (nb_tuple : PySem.W.nsIn K mainGlobals "tuple" = some none)
    (kk_FIGURES : PySem.W.nsIn K mainGlobals "FIGURES" = some (some (.str "0123456789" t_FIGURES)))
    (kk_MOST_FIGURES : PySem.W.nsIn K mainGlobals "MOST_FIGURES" = some (some (.int 6 t_MOST_FIGURES)))
    (kk_STATIONS : PySem.W.nsIn K mainGlobals "STATIONS" = some (some (.str "ABCDEFGH" t_STATIONS)))
    (a_law_cell : PySem.W.nsIn K mainGlobals "_law_cell" = some (some (.ref f_law_cell)))
    (l_law_cell : K.lookup f_law_cell = some ⟨oc_law_cell, od_law_cell, .func (PySem.W.fnOf "_law_cell" "_law_cell" (defArgs s_law_cell) (defBody s_law_cell) (defScope s_law_cell) .none kv_law_cell dc_law_cell pm_law_cell an_law_cell cd_law_cell ct_law_cell), sl_law_cell⟩)
    (c_law_cell : PySem.W.codeIn K cd_law_cell "_law_cell" = true)
    (k_law_cell : PySem.W.keepIn K (.ref f_law_cell) = true)
    (a_law_digits : PySem.W.nsIn K mainGlobals "_law_digits" = some (some (.ref f_law_digits)))
    (l_law_digits : K.lookup f_law_digits = some ⟨oc_law_digits, od_law_digits, .func (PySem.W.fnOf "_law_digits" "_law_digits" (defArgs s_law_digits) (defBody s_law_digits) (defScope s_law_digits) .none kv_law_digits dc_law_digits pm_law_digits an_law_digits cd_law_digits ct_law_digits), sl_law_digits⟩)
    (c_law_digits : PySem.W.codeIn K cd_law_digits "_law_digits" = true)
    (k_law_digits : PySem.W.keepIn K (.ref f_law_digits) = true)
    (a_law_draw : PySem.W.nsIn K mainGlobals "_law_draw" = some (some (.ref f_law_draw)))
    (l_law_draw : K.lookup f_law_draw = some ⟨oc_law_draw, od_law_draw, .func (PySem.W.fnOf "_law_draw" "_law_draw" (defArgs s_law_draw) (defBody s_law_draw) (defScope s_law_draw) .none kv_law_draw dc_law_draw pm_law_draw an_law_draw cd_law_draw ct_law_draw), sl_law_draw⟩)
    (c_law_draw : PySem.W.codeIn K cd_law_draw "_law_draw" = true)
    (k_law_draw : PySem.W.keepIn K (.ref f_law_draw) = true)
    (a_law_place : PySem.W.nsIn K mainGlobals "_law_place" = some (some (.ref f_law_place)))
    (l_law_place : K.lookup f_law_place = some ⟨oc_law_place, od_law_place, .func (PySem.W.fnOf "_law_place" "_law_place" (defArgs s_law_place) (defBody s_law_place) (defScope s_law_place) .none kv_law_place dc_law_place pm_law_place an_law_place cd_law_place ct_law_place), sl_law_place⟩)
    (c_law_place : PySem.W.codeIn K cd_law_place "_law_place" = true)
    (k_law_place : PySem.W.keepIn K (.ref f_law_place) = true)
    (a_law_number : PySem.W.nsIn K mainGlobals "_law_number" = some (some (.ref f_law_number)))
    (l_law_number : K.lookup f_law_number = some ⟨oc_law_number, od_law_number, .func (PySem.W.fnOf "_law_number" "_law_number" (defArgs s_law_number) (defBody s_law_number) (defScope s_law_number) .none kv_law_number dc_law_number pm_law_number an_law_number cd_law_number ct_law_number), sl_law_number⟩)
    (c_law_number : PySem.W.codeIn K cd_law_number "_law_number" = true)
    (k_law_number : PySem.W.keepIn K (.ref f_law_number) = true)
    (a_law_robot : PySem.W.nsIn K mainGlobals "_law_robot" = some (some (.ref f_law_robot)))
    (l_law_robot : K.lookup f_law_robot = some ⟨oc_law_robot, od_law_robot, .func (PySem.W.fnOf "_law_robot" "_law_robot" (defArgs s_law_robot) (defBody s_law_robot) (defScope s_law_robot) .none kv_law_robot dc_law_robot pm_law_robot an_law_robot cd_law_robot ct_law_robot), sl_law_robot⟩)
    (c_law_robot : PySem.W.codeIn K cd_law_robot "_law_robot" = true)
    (k_law_robot : PySem.W.keepIn K (.ref f_law_robot) = true)
    (a_law_order : PySem.W.nsIn K mainGlobals "_law_order" = some (some (.ref f_law_order)))
    (l_law_order : K.lookup f_law_order = some ⟨oc_law_order, od_law_order, .func (PySem.W.fnOf "_law_order" "_law_order" (defArgs s_law_order) (defBody s_law_order) (defScope s_law_order) .none kv_law_order dc_law_order pm_law_order an_law_order cd_law_order ct_law_order), sl_law_order⟩)
    (c_law_order : PySem.W.codeIn K cd_law_order "_law_order" = true)
    (k_law_order : PySem.W.keepIn K (.ref f_law_order) = true)
    (a_law_told : PySem.W.nsIn K mainGlobals "_law_told" = some (some (.ref f_law_told)))
    (l_law_told : K.lookup f_law_told = some ⟨oc_law_told, od_law_told, .func (PySem.W.fnOf "_law_told" "_law_told" (defArgs s_law_told) (defBody s_law_told) (defScope s_law_told) .none kv_law_told dc_law_told pm_law_told an_law_told cd_law_told ct_law_told), sl_law_told⟩)
    (c_law_told : PySem.W.codeIn K cd_law_told "_law_told" = true)
    (k_law_told : PySem.W.keepIn K (.ref f_law_told) = true)
    (a_write_place : PySem.W.nsIn K mainGlobals "write_place" = some (some (.ref f_write_place)))
    (l_write_place : K.lookup f_write_place = some ⟨oc_write_place, od_write_place, .func (PySem.W.fnOf "write_place" "write_place" (defArgs s_write_place) (defBody s_write_place) (defScope s_write_place) .none kv_write_place dc_write_place pm_write_place an_write_place cd_write_place ct_write_place), sl_write_place⟩)
    (c_write_place : PySem.W.codeIn K cd_write_place "write_place" = true)
    (k_write_place : PySem.W.keepIn K (.ref f_write_place) = true)
    (a_write_robot : PySem.W.nsIn K mainGlobals "write_robot" = some (some (.ref f_write_robot)))
    (l_write_robot : K.lookup f_write_robot = some ⟨oc_write_robot, od_write_robot, .func (PySem.W.fnOf "write_robot" "write_robot" (defArgs s_write_robot) (defBody s_write_robot) (defScope s_write_robot) .none kv_write_robot dc_write_robot pm_write_robot an_write_robot cd_write_robot ct_write_robot), sl_write_robot⟩)
    (c_write_robot : PySem.W.codeIn K cd_write_robot "write_robot" = true)
    (k_write_robot : PySem.W.keepIn K (.ref f_write_robot) = true)
    (a_write_order : PySem.W.nsIn K mainGlobals "write_order" = some (some (.ref f_write_order)))
    (l_write_order : K.lookup f_write_order = some ⟨oc_write_order, od_write_order, .func (PySem.W.fnOf "write_order" "write_order" (defArgs s_write_order) (defBody s_write_order) (defScope s_write_order) .none kv_write_order dc_write_order pm_write_order an_write_order cd_write_order ct_write_order), sl_write_order⟩)
    (c_write_order : PySem.W.codeIn K cd_write_order "write_order" = true)
    (k_write_order : PySem.W.keepIn K (.ref f_write_order) = true)
    (a_write_report : PySem.W.nsIn K mainGlobals "write_report" = some (some (.ref f_write_report)))
    (l_write_report : K.lookup f_write_report = some ⟨oc_write_report, od_write_report, .func (PySem.W.fnOf "write_report" "write_report" (defArgs s_write_report) (defBody s_write_report) (defScope s_write_report) .none kv_write_report dc_write_report pm_write_report an_write_report cd_write_report ct_write_report), sl_write_report⟩)
    (c_write_report : PySem.W.codeIn K cd_write_report "write_report" = true)
    (k_write_report : PySem.W.keepIn K (.ref f_write_report) = true)
    (a_read_number : PySem.W.nsIn K mainGlobals "read_number" = some (some (.ref f_read_number)))
    (l_read_number : K.lookup f_read_number = some ⟨oc_read_number, od_read_number, .func (PySem.W.fnOf "read_number" "read_number" (defArgs s_read_number) (defBody s_read_number) (defScope s_read_number) .none kv_read_number dc_read_number pm_read_number an_read_number cd_read_number ct_read_number), sl_read_number⟩)
    (c_read_number : PySem.W.codeIn K cd_read_number "read_number" = true)
    (k_read_number : PySem.W.keepIn K (.ref f_read_number) = true)
    (a_read_place : PySem.W.nsIn K mainGlobals "read_place" = some (some (.ref f_read_place)))
    (l_read_place : K.lookup f_read_place = some ⟨oc_read_place, od_read_place, .func (PySem.W.fnOf "read_place" "read_place" (defArgs s_read_place) (defBody s_read_place) (defScope s_read_place) .none kv_read_place dc_read_place pm_read_place an_read_place cd_read_place ct_read_place), sl_read_place⟩)
    (c_read_place : PySem.W.codeIn K cd_read_place "read_place" = true)
    (k_read_place : PySem.W.keepIn K (.ref f_read_place) = true)
    (a_read_share : PySem.W.nsIn K mainGlobals "read_share" = some (some (.ref f_read_share)))
    (l_read_share : K.lookup f_read_share = some ⟨oc_read_share, od_read_share, .func (PySem.W.fnOf "read_share" "read_share" (defArgs s_read_share) (defBody s_read_share) (defScope s_read_share) .none kv_read_share dc_read_share pm_read_share an_read_share cd_read_share ct_read_share), sl_read_share⟩)
    (c_read_share : PySem.W.codeIn K cd_read_share "read_share" = true)
    (k_read_share : PySem.W.keepIn K (.ref f_read_share) = true)
    (a_read_way : PySem.W.nsIn K mainGlobals "read_way" = some (some (.ref f_read_way)))
    (l_read_way : K.lookup f_read_way = some ⟨oc_read_way, od_read_way, .func (PySem.W.fnOf "read_way" "read_way" (defArgs s_read_way) (defBody s_read_way) (defScope s_read_way) .none kv_read_way dc_read_way pm_read_way an_read_way cd_read_way ct_read_way), sl_read_way⟩)
    (c_read_way : PySem.W.codeIn K cd_read_way "read_way" = true)
    (k_read_way : PySem.W.keepIn K (.ref f_read_way) = true)
    (a_read_errand : PySem.W.nsIn K mainGlobals "read_errand" = some (some (.ref f_read_errand)))
    (l_read_errand : K.lookup f_read_errand = some ⟨oc_read_errand, od_read_errand, .func (PySem.W.fnOf "read_errand" "read_errand" (defArgs s_read_errand) (defBody s_read_errand) (defScope s_read_errand) .none kv_read_errand dc_read_errand pm_read_errand an_read_errand cd_read_errand ct_read_errand), sl_read_errand⟩)
    (c_read_errand : PySem.W.codeIn K cd_read_errand "read_errand" = true)
    (k_read_errand : PySem.W.keepIn K (.ref f_read_errand) = true)
    (a_read_robot : PySem.W.nsIn K mainGlobals "read_robot" = some (some (.ref f_read_robot)))
    (l_read_robot : K.lookup f_read_robot = some ⟨oc_read_robot, od_read_robot, .func (PySem.W.fnOf "read_robot" "read_robot" (defArgs s_read_robot) (defBody s_read_robot) (defScope s_read_robot) .none kv_read_robot dc_read_robot pm_read_robot an_read_robot cd_read_robot ct_read_robot), sl_read_robot⟩)
    (c_read_robot : PySem.W.codeIn K cd_read_robot "read_robot" = true)
    (k_read_robot : PySem.W.keepIn K (.ref f_read_robot) = true)
    (a_read_order_state : PySem.W.nsIn K mainGlobals "read_order_state" = some (some (.ref f_read_order_state)))
    (l_read_order_state : K.lookup f_read_order_state = some ⟨oc_read_order_state, od_read_order_state, .func (PySem.W.fnOf "read_order_state" "read_order_state" (defArgs s_read_order_state) (defBody s_read_order_state) (defScope s_read_order_state) .none kv_read_order_state dc_read_order_state pm_read_order_state an_read_order_state cd_read_order_state ct_read_order_state), sl_read_order_state⟩)
    (c_read_order_state : PySem.W.codeIn K cd_read_order_state "read_order_state" = true)
    (k_read_order_state : PySem.W.keepIn K (.ref f_read_order_state) = true)
    (a_is_letter : PySem.W.nsIn K mainGlobals "is_letter" = some (some (.ref f_is_letter)))
    (l_is_letter : K.lookup f_is_letter = some ⟨oc_is_letter, od_is_letter, .func (PySem.W.fnOf "is_letter" "is_letter" (defArgs s_is_letter) (defBody s_is_letter) (defScope s_is_letter) .none kv_is_letter dc_is_letter pm_is_letter an_is_letter cd_is_letter ct_is_letter), sl_is_letter⟩)
    (c_is_letter : PySem.W.codeIn K cd_is_letter "is_letter" = true)
    (k_is_letter : PySem.W.keepIn K (.ref f_is_letter) = true)
    (a_read_order_row : PySem.W.nsIn K mainGlobals "read_order_row" = some (some (.ref f_read_order_row)))
    (l_read_order_row : K.lookup f_read_order_row = some ⟨oc_read_order_row, od_read_order_row, .func (PySem.W.fnOf "read_order_row" "read_order_row" (defArgs s_read_order_row) (defBody s_read_order_row) (defScope s_read_order_row) .none kv_read_order_row dc_read_order_row pm_read_order_row an_read_order_row cd_read_order_row ct_read_order_row), sl_read_order_row⟩)
    (c_read_order_row : PySem.W.codeIn K cd_read_order_row "read_order_row" = true)
    (k_read_order_row : PySem.W.keepIn K (.ref f_read_order_row) = true)
    (a_read_report : PySem.W.nsIn K mainGlobals "read_report" = some (some (.ref f_read_report)))
    (l_read_report : K.lookup f_read_report = some ⟨oc_read_report, od_read_report, .func (PySem.W.fnOf "read_report" "read_report" (defArgs s_read_report) (defBody s_read_report) (defScope s_read_report) .none kv_read_report dc_read_report pm_read_report an_read_report cd_read_report ct_read_report), sl_read_report⟩)
    (c_read_report : PySem.W.codeIn K cd_read_report "read_report" = true)
    (k_read_report : PySem.W.keepIn K (.ref f_read_report) = true)
    (a_law_is_row : PySem.W.nsIn K mainGlobals "_law_is_row" = some (some (.ref f_law_is_row)))
    (l_law_is_row : K.lookup f_law_is_row = some ⟨oc_law_is_row, od_law_is_row, .func (PySem.W.fnOf "_law_is_row" "_law_is_row" (defArgs s_law_is_row) (defBody s_law_is_row) (defScope s_law_is_row) .none kv_law_is_row dc_law_is_row pm_law_is_row an_law_is_row cd_law_is_row ct_law_is_row), sl_law_is_row⟩)
    (c_law_is_row : PySem.W.codeIn K cd_law_is_row "_law_is_row" = true)
    (k_law_is_row : PySem.W.keepIn K (.ref f_law_is_row) = true)
    (a_law : PySem.W.nsIn K mainGlobals "law" = some (some (.ref f_law)))
    (l_law : K.lookup f_law = some ⟨oc_law, od_law, .func (PySem.W.fnOf "law" "law" (defArgs s_law) (defBody s_law) (defScope s_law) .none kv_law dc_law pm_law an_law cd_law ct_law), sl_law⟩)
    (c_law : PySem.W.codeIn K cd_law "law" = true)
    (k_law : PySem.W.keepIn K (.ref f_law) = true)
    (te_read_number : cd_read_number = .ref Cc_read_number)
    (tv_read_number : K.lookup Cc_read_number = some ⟨vc_read_number, vd_read_number, .fields vs_read_number, vl_read_number⟩)
    (tp_read_number : vs_read_number[11]? = some (.ref Pp_read_number))
    (tt_no : PySem.W.noTabs K = true)
    (r_read_number : ∃ e, (PyProof.Rows.recsOf q).find? (fun r => r.name == ("read_number" : Str)) = some e) :
    ∃ (fd : FuncData) (cs : List (Addr × Addr)), (∀ (s : Shared) (v : Value), BindsTo s fd ⟨[v], []⟩ [("script", v)]) ∧ (∀ p ∈ cs, ∃ (y : Str) (e : DefRec), (PyProof.Rows.recsOf q).find? (fun r => r.name == y) = some e ∧ PySem.W.tabIn K y = some p) ∧ PySem.W.noTabs K = true ∧ ∀ base : Heap, K.In base → base.Ns mainGlobals mg → (∀ p ∈ cs, GxR.TabB base mg p.1 p.2) → FnG l.prog w K mg base CX0 9 fa fd ["script"] (SpG K cs 63) := by
  obtain ⟨fd, h1, h2⟩ := all_mk (l := l) X G hfa nb_any nb_enumerate nb_int nb_isinstance nb_len nb_list nb_range nb_str nb_tuple kk_FIGURES kk_MOST_FIGURES kk_STATIONS a_law_cell l_law_cell c_law_cell k_law_cell a_law_digits l_law_digits c_law_digits k_law_digits a_law_draw l_law_draw c_law_draw k_law_draw a_law_place l_law_place c_law_place k_law_place a_law_number l_law_number c_law_number k_law_number a_law_robot l_law_robot c_law_robot k_law_robot a_law_order l_law_order c_law_order k_law_order a_law_told l_law_told c_law_told k_law_told a_write_place l_write_place c_write_place k_write_place a_write_robot l_write_robot c_write_robot k_write_robot a_write_order l_write_order c_write_order k_write_order a_write_report l_write_report c_write_report k_write_report a_read_number l_read_number c_read_number k_read_number a_read_place l_read_place c_read_place k_read_place a_read_share l_read_share c_read_share k_read_share a_read_way l_read_way c_read_way k_read_way a_read_errand l_read_errand c_read_errand k_read_errand a_read_robot l_read_robot c_read_robot k_read_robot a_read_order_state l_read_order_state c_read_order_state k_read_order_state a_is_letter l_is_letter c_is_letter k_is_letter a_read_order_row l_read_order_row c_read_order_row k_read_order_row a_read_report l_read_report c_read_report k_read_report a_law_is_row l_law_is_row c_law_is_row k_law_is_row a_law l_law c_law k_law te_read_number tv_read_number tp_read_number tt_no
  refine ⟨fd, [(Cc_read_number, Pp_read_number)], h1, fun p hp => ?_, tt_no, h2⟩
  simp only [List.mem_cons, List.not_mem_nil, or_false] at hp
  subst hp
  · obtain ⟨e, he⟩ := r_read_number; exact ⟨_, e, he, tabIn_of a_read_number l_read_number te_read_number tv_read_number tp_read_number⟩
end
theorem walk {l : PySem.W.OpenLaw} {q : Program} {loose : List Str} {XP : (Str → Option Value) → Heap → Prop} {YP : World → Heap → Prop} {d : DefRec} {K : Params → PySem.W.Frag} (hn : l.most = some 63) (hdf : d.params.defaults = [])
    (hY : ∀ (w : World) (h : Heap), YP w h → (K w.params).In h)
    (F : ∀ (w : World) (mg : Str → Option Value) (fa : Addr) (h : Heap), (K w.params).In h → h.Ns mainGlobals mg → mg d.name = some (.ref fa) →
      ∃ (fd : FuncData) (cs : List (Addr × Addr)), (∀ (s : Shared) (u : Value), BindsTo s fd ⟨[u], []⟩ [("script", u)]) ∧ (∀ p ∈ cs, ∃ (y : Str) (e : DefRec), (PyProof.Rows.recsOf q).find? (fun r => r.name == y) = some e ∧ PySem.W.tabIn (K w.params) y = some p) ∧ PySem.W.noTabs (K w.params) = true ∧
        ∀ base : Heap, (K w.params).In base → base.Ns mainGlobals mg → (∀ p ∈ cs, GxR.TabB base mg p.1 p.2) → FnG l.prog w (K w.params) mg base CX0 9 fa fd ["script"] (SpG (K w.params) cs 63)) :
    PySem.W.WalkO q loose XP YP l.row.toRowW d [] (fun f vs => PySem.call f vs) :=
  walk_GT (n := 63) (k := 9) (x := "script") (CX := CX0) hn (by decide) hdf ⟨rfl, by decide, by decide⟩ hY F fun _ _ _ _ z => z
theorem find_rec {q : Program} {y : Str} (h : ((PyProof.Rows.recsOf q).find? (fun r => r.name == y)).isSome = true) : ∃ e, (PyProof.Rows.recsOf q).find? (fun r => r.name == y) = some e := Option.isSome_iff_exists.mp h
end Law
open PySem PySem.W PyProof.Rows
set_option maxRecDepth 100000 in
set_option maxHeartbeats 0 in
theorem PySem.Challenge.cw_clearfloor_k24_reports_are_read_back_holds : PySem.Challenge.rw_clearfloor_k24_reports_are_read_back.Holds := by
  w_on; o_law; k_head; (case hw => w_witness2)
  k_fill
  refine Law.walk (l := PySem.Challenge.rw_clearfloor_k24_reports_are_read_back) rfl rfl (fun w h Y => PySem.W.kIn_of Y) ?F
  case F =>
    intro w mg fa h KX G hmg
    refine' Law.all_mk2 (q := ?qq) KX G hmg ?nb_any ?nb_enumerate ?nb_int ?nb_isinstance ?nb_len ?nb_list ?nb_range ?nb_str ?nb_tuple ?kk_FIGURES ?kk_MOST_FIGURES ?kk_STATIONS ?a_law_cell ?l_law_cell ?c_law_cell ?k_law_cell ?a_law_digits ?l_law_digits ?c_law_digits ?k_law_digits ?a_law_draw ?l_law_draw ?c_law_draw ?k_law_draw ?a_law_place ?l_law_place ?c_law_place ?k_law_place ?a_law_number ?l_law_number ?c_law_number ?k_law_number ?a_law_robot ?l_law_robot ?c_law_robot ?k_law_robot ?a_law_order ?l_law_order ?c_law_order ?k_law_order ?a_law_told ?l_law_told ?c_law_told ?k_law_told ?a_write_place ?l_write_place ?c_write_place ?k_write_place ?a_write_robot ?l_write_robot ?c_write_robot ?k_write_robot ?a_write_order ?l_write_order ?c_write_order ?k_write_order ?a_write_report ?l_write_report ?c_write_report ?k_write_report ?a_read_number ?l_read_number ?c_read_number ?k_read_number ?a_read_place ?l_read_place ?c_read_place ?k_read_place ?a_read_share ?l_read_share ?c_read_share ?k_read_share ?a_read_way ?l_read_way ?c_read_way ?k_read_way ?a_read_errand ?l_read_errand ?c_read_errand ?k_read_errand ?a_read_robot ?l_read_robot ?c_read_robot ?k_read_robot ?a_read_order_state ?l_read_order_state ?c_read_order_state ?k_read_order_state ?a_is_letter ?l_is_letter ?c_is_letter ?k_is_letter ?a_read_order_row ?l_read_order_row ?c_read_order_row ?k_read_order_row ?a_read_report ?l_read_report ?c_read_report ?k_read_report ?a_law_is_row ?l_law_is_row ?c_law_is_row ?k_law_is_row ?a_law ?l_law ?c_law ?k_law ?te_read_number ?tv_read_number ?tp_read_number ?tt_no ?r_read_number
    (case r_read_number => exact Law.find_rec (by decide +kernel))
    (case nb_any => k_is)
    (case nb_enumerate => k_is)
    (case nb_int => k_is)
    (case nb_isinstance => k_is)
    (case nb_len => k_is)
    (case nb_list => k_is)
    (case nb_range => k_is)
    (case nb_str => k_is)
    (case nb_tuple => k_is)
    (case kk_FIGURES => k_is)
    (case kk_MOST_FIGURES => k_is)
    (case kk_STATIONS => k_is)
    (case a_law_cell => k_is)
    (case l_law_cell => k_is)
    (case c_law_cell => k_is)
    (case k_law_cell => k_is)
    (case a_law_digits => k_is)
    (case l_law_digits => k_is)
    (case c_law_digits => k_is)
    (case k_law_digits => k_is)
    (case a_law_draw => k_is)
    (case l_law_draw => k_is)
    (case c_law_draw => k_is)
    (case k_law_draw => k_is)
    (case a_law_place => k_is)
    (case l_law_place => k_is)
    (case c_law_place => k_is)
    (case k_law_place => k_is)
    (case a_law_number => k_is)
    (case l_law_number => k_is)
    (case c_law_number => k_is)
    (case k_law_number => k_is)
    (case a_law_robot => k_is)
    (case l_law_robot => k_is)
    (case c_law_robot => k_is)
    (case k_law_robot => k_is)
    (case a_law_order => k_is)
    (case l_law_order => k_is)
    (case c_law_order => k_is)
    (case k_law_order => k_is)
    (case a_law_told => k_is)
    (case l_law_told => k_is)
    (case c_law_told => k_is)
    (case k_law_told => k_is)
    (case a_write_place => k_is)
    (case l_write_place => k_is)
    (case c_write_place => k_is)
    (case k_write_place => k_is)
    (case a_write_robot => k_is)
    (case l_write_robot => k_is)
    (case c_write_robot => k_is)
    (case k_write_robot => k_is)
    (case a_write_order => k_is)
    (case l_write_order => k_is)
    (case c_write_order => k_is)
    (case k_write_order => k_is)
    (case a_write_report => k_is)
    (case l_write_report => k_is)
    (case c_write_report => k_is)
    (case k_write_report => k_is)
    (case a_read_number => k_is)
    (case l_read_number => k_is)
    (case c_read_number => k_is)
    (case k_read_number => k_is)
    (case a_read_place => k_is)
    (case l_read_place => k_is)
    (case c_read_place => k_is)
    (case k_read_place => k_is)
    (case a_read_share => k_is)
    (case l_read_share => k_is)
    (case c_read_share => k_is)
    (case k_read_share => k_is)
    (case a_read_way => k_is)
    (case l_read_way => k_is)
    (case c_read_way => k_is)
    (case k_read_way => k_is)
    (case a_read_errand => k_is)
    (case l_read_errand => k_is)
    (case c_read_errand => k_is)
    (case k_read_errand => k_is)
    (case a_read_robot => k_is)
    (case l_read_robot => k_is)
    (case c_read_robot => k_is)
    (case k_read_robot => k_is)
    (case a_read_order_state => k_is)
    (case l_read_order_state => k_is)
    (case c_read_order_state => k_is)
    (case k_read_order_state => k_is)
    (case a_is_letter => k_is)
    (case l_is_letter => k_is)
    (case c_is_letter => k_is)
    (case k_is_letter => k_is)
    (case a_read_order_row => k_is)
    (case l_read_order_row => k_is)
    (case c_read_order_row => k_is)
    (case k_read_order_row => k_is)
    (case a_read_report => k_is)
    (case l_read_report => k_is)
    (case c_read_report => k_is)
    (case k_read_report => k_is)
    (case a_law_is_row => k_is)
    (case l_law_is_row => k_is)
    (case c_law_is_row => k_is)
    (case k_law_is_row => k_is)
    (case a_law => k_is)
    (case l_law => k_is)
    (case c_law => k_is)
    (case k_law => k_is)
    (case te_read_number => exact rfl)
    (case tv_read_number => k_is)
    (case tp_read_number => exact rfl)
    (case tt_no => exact rfl)
