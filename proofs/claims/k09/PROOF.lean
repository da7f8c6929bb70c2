import PyProof.Rows.All
import Wide.All
import OpenK.AllK
import Wide.FinOn
import HandS.ForMost
import HandS.Walk
import HandS.DictComp
import HandS.AnyAll
import KE.KDictKeyed
import HandS.WideMore
import PyProof.StrBlock2
import HandS.IsInst
import HandS.StrMore
import HandS.SortInts
import PyProof.ReprRoads
import HandS.RaiseMore
import HandS.SetFor
import HandS.Deep
import KE.KDictZip
import PySem.Challenge.RW_clearfloor_k09_links_change_along_a_path
set_option Elab.async false
set_option linter.all false
set_option maxRecDepth 100000
set_option maxHeartbeats 4000000
namespace Q
open PySem L2
/-! ## Plain data, and how it lies in a heap -/
inductive D where
  | non | bl (b : Bool) | int (i : Int) | str (s : Str)
  | lst (xs : List D) | tup (xs : List D) | scr (xs : List D)
  | dic (ks : List Key) (xs : List D)
  | obj (c : String) (ks : List Str) (xs : List D)
  | typ (n : String)
  | dcn (ks : List (List Int)) (xs : List D)
/-! ### dicts whose keys are tuples of whole numbers and truth values -/
def hashN (k : List Int) : Int := reduceHash (Builtin.Tuple.tupleHashOf (k.map hashInt))
def entN (k : List Int) (b : Addr) (u : Value) : DictEntry := ⟨hashN k, .ref b, u⟩
def entsN : List (List Int) → List Addr → List Value → List DictEntry
  | k :: ks, b :: bs, u :: us => entN k b u :: entsN ks bs us
  | _, _, _ => []
structure Raw (a : Addr) (es : List DictEntry) (h : Heap) : Prop where
  ob : ∃ o ep, h.get? a = some o ∧ o.ExactDict ∧ o.data = .dict es.toArray ep
  sm : (a == sysModules) = false
  sz : es.length ≤ sizeLine
def numV : V → Option Int
  | .int i => some i
  | .bl b => some (if b = true then 1 else 0)
  | _ => none
def KeyAt (K : PySem.W.Frag) (I : Hp) (k : List Int) (b : Addr) : Prop := ∃ vs, SqT K I b vs ∧ vs.map numV = k.map some
inductive KeysAt (K : PySem.W.Frag) (I : Hp) : List (List Int) → List Addr → Prop
  | nil : KeysAt K I [] []
  | cons {k ks b bs} : KeyAt K I k b → KeysAt K I ks bs → KeysAt K I (k :: ks) (b :: bs)
theorem sqT_mono {K : PySem.W.Frag} {I I' : Hp} {a : Addr} {vs : List V} (s : Same I I') (h : SqT K I a vs) : SqT K I' a vs := by
  rcases h with (h | ⟨o, h⟩) | h
  · exact .inl (.inl (s _ _ h))
  · exact .inl (.inr ⟨o, s _ _ h⟩)
  · exact .inr h
theorem KeysAt.mono {K : PySem.W.Frag} {I I' : Hp} (s : Same I I') : ∀ {ks : List (List Int)} {bs : List Addr}, KeysAt K I ks bs → KeysAt K I' ks bs
  | _, _, .nil => .nil
  | _, _, .cons ⟨vs, h, e⟩ t => .cons ⟨vs, sqT_mono s h, e⟩ (KeysAt.mono s t)
theorem KeysAt.length {K : PySem.W.Frag} {I : Hp} : ∀ {ks : List (List Int)} {bs : List Addr}, KeysAt K I ks bs → ks.length = bs.length
  | _, _, .nil => rfl
  | _, _, .cons _ t => by simp [KeysAt.length t]
mutual
inductive Rep (K : PySem.W.Frag) (cl : String → Option Addr) (I : Hp) : D → V → Prop
  | non : Rep K cl I .non .non
  | bl {b} : Rep K cl I (.bl b) (.bl b)
  | int {i} : Rep K cl I (.int i) (.int i)
  | str {s} : Rep K cl I (.str s) (.str s)
  | typ {n} : Rep K cl I (.typ n) (.ty n)
  | scr {a xs vs} : SqL K I a vs → Reps K cl I xs vs → Rep K cl I (.scr xs) (.ref a)
  | tup {a xs vs} : SqT K I a vs → Reps K cl I xs vs → Rep K cl I (.tup xs) (.ref a)
  | obj {d a o} : I a = some o → ObjRep K cl I d o → Rep K cl I d (.ref a)
  /-- a dict while it is walked -/
  | fz {ks xs a od o} : I a = some (.frz od o) → ObjRep K cl I (.dic ks xs) o → Rep K cl I (.dic ks xs) (.ref a)
inductive Reps (K : PySem.W.Frag) (cl : String → Option Addr) (I : Hp) : List D → List V → Prop
  | nil : Reps K cl I [] []
  | cons {d v ds vs} : Rep K cl I d v → Reps K cl I ds vs → Reps K cl I (d :: ds) (v :: vs)
inductive ObjRep (K : PySem.W.Frag) (cl : String → Option Addr) (I : Hp) : D → HO → Prop
  | lst {xs vs} : Reps K cl I xs vs → ObjRep K cl I (.lst xs) (.lst vs)
  | dic {ks xs vs} : Reps K cl I xs vs → ks.length = xs.length → ObjRep K cl I (.dic ks xs) (.dK (ks.zip vs))
  | obj {c C dx ks xs vs} : cl c = some C → Reps K cl I xs vs → ks.length = xs.length → ObjRep K cl I (.obj c ks xs) (.ins C dx (ks.zip vs))
  | dcn {a ks xs vs bs us} : KeysAt K I ks bs → Reps K cl I xs vs → Vals vs us → ks.length = xs.length → ks.Nodup → ObjRep K cl I (.dcn ks xs) (.ext (Raw a (entsN ks bs us)))
end
section
variable {K : PySem.W.Frag} {cl : String → Option Addr} {I I' : Hp}
mutual
theorem Rep.mono (s : Same I I') : ∀ {d : D} {v : V}, Rep K cl I d v → Rep K cl I' d v
  | _, _, .non => .non
  | _, _, .bl => .bl
  | _, _, .int => .int
  | _, _, .str => .str
  | _, _, .typ => .typ
  | _, _, .scr h r => .scr (s.seq h) (Reps.mono s r)
  | _, _, .tup h r => .tup (by
      rcases h with (h | ⟨o, h⟩) | h
      · exact .inl (.inl (s _ _ h))
      · exact .inl (.inr ⟨o, s _ _ h⟩)
      · exact .inr h) (Reps.mono s r)
  | _, _, .obj h r => .obj (s _ _ h) (ObjRep.mono s r)
  | _, _, .fz h r => .fz (s _ _ h) (ObjRep.mono s r)
theorem Reps.mono (s : Same I I') : ∀ {ds : List D} {vs : List V}, Reps K cl I ds vs → Reps K cl I' ds vs
  | _, _, .nil => .nil
  | _, _, .cons r t => .cons (Rep.mono s r) (Reps.mono s t)
theorem ObjRep.mono (s : Same I I') : ∀ {d : D} {o : HO}, ObjRep K cl I d o → ObjRep K cl I' d o
  | _, _, .lst r => .lst (Reps.mono s r)
  | _, _, .dic r e => .dic (Reps.mono s r) e
  | _, _, .obj c r e => .obj c (Reps.mono s r) e
  | _, _, .dcn h r v e n => .dcn (h.mono s) (Reps.mono s r) v e n
end
theorem Reps.length : ∀ {ds : List D} {vs : List V}, Reps K cl I ds vs → ds.length = vs.length
  | _, _, .nil => rfl
  | _, _, .cons _ t => by simp [Reps.length t]
theorem Reps.get : ∀ {ds : List D} {vs : List V} {i : Nat} {d : D}, Reps K cl I ds vs → ds[i]? = some d → ∃ v, vs[i]? = some v ∧ Rep K cl I d v
  | _, _, i, _, .nil, e => by simp at e
  | _, _, 0, _, .cons r _, e => by simp at e; subst e; exact ⟨_, rfl, r⟩
  | _, _, i + 1, d, .cons _ t, e => by
    obtain ⟨v, h1, h2⟩ := Reps.get (i := i) (d := d) t (by simpa using e)
    exact ⟨v, by simpa using h1, h2⟩
theorem Reps.getV : ∀ {ds : List D} {vs : List V} {i : Nat} {v : V}, Reps K cl I ds vs → vs[i]? = some v → ∃ d, ds[i]? = some d ∧ Rep K cl I d v
  | _, _, i, _, .nil, e => by simp at e
  | _, _, 0, _, .cons r _, e => by simp at e; subst e; exact ⟨_, rfl, r⟩
  | _, _, i + 1, d, .cons _ t, e => by
    obtain ⟨v, h1, h2⟩ := Reps.getV (i := i) (v := d) t (by simpa using e)
    exact ⟨v, by simpa using h1, h2⟩
theorem Reps.append : ∀ {ds es : List D} {vs us : List V}, Reps K cl I ds vs → Reps K cl I es us → Reps K cl I (ds ++ es) (vs ++ us)
  | _, _, _, _, .nil, s => s
  | _, _, _, _, .cons r t, s => .cons r (Reps.append t s)
theorem Reps.set : ∀ {ds : List D} {vs : List V} (i : Nat) {d : D} {v : V}, Rep K cl I d v → Reps K cl I ds vs → Reps K cl I (ds.set i d) (vs.set i v)
  | _, _, i, _, _, _, .nil => by cases i <;> exact .nil
  | _, _, 0, _, _, r, .cons _ t => .cons r t
  | _, _, i + 1, _, _, r, .cons q t => .cons q (Reps.set i r t)
theorem Rep.int_inv {i : Int} {v : V} (h : Rep K cl I (.int i) v) : v = .int i := by
  cases h with
  | int => rfl
  | obj _ q => cases q
theorem Rep.bl_inv {i : Bool} {v : V} (h : Rep K cl I (.bl i) v) : v = .bl i := by
  cases h with
  | bl => rfl
  | obj _ q => cases q
theorem Rep.str_inv {i : Str} {v : V} (h : Rep K cl I (.str i) v) : v = .str i := by
  cases h with
  | str => rfl
  | obj _ q => cases q
theorem Rep.non_inv {v : V} (h : Rep K cl I .non v) : v = .non := by
  cases h with
  | non => rfl
  | obj _ q => cases q
theorem Rep.typ_inv {n : String} {v : V} (h : Rep K cl I (.typ n) v) : v = .ty n := by
  cases h with
  | typ => rfl
  | obj _ q => cases q
theorem Rep.lst_inv {xs : List D} {v : V} (h : Rep K cl I (.lst xs) v) : ∃ a vs, v = .ref a ∧ I a = some (.lst vs) ∧ Reps K cl I xs vs := by
  cases h with
  | obj h q =>
    cases q with
    | lst r => exact ⟨_, _, rfl, h, r⟩
theorem Rep.scr_inv {xs : List D} {v : V} (h : Rep K cl I (.scr xs) v) : ∃ a vs, v = .ref a ∧ SqL K I a vs ∧ Reps K cl I xs vs := by
  cases h with
  | scr h r => exact ⟨_, _, rfl, h, r⟩
  | obj h q => cases q
theorem ObjRep.lst_inv {xs : List D} {o : HO} (h : ObjRep K cl I (.lst xs) o) : ∃ vs, o = .lst vs ∧ Reps K cl I xs vs := by
  cases h with
  | lst r => exact ⟨_, rfl, r⟩
theorem ObjRep.dic_inv {ks xs} {o : HO} (h : ObjRep K cl I (.dic ks xs) o) : ∃ vs, o = .dK (ks.zip vs) ∧ Reps K cl I xs vs ∧ ks.length = xs.length := by
  cases h with
  | dic r e => exact ⟨_, rfl, r, e⟩
theorem ObjRep.ob_inv {c ks xs} {o : HO} (h : ObjRep K cl I (.obj c ks xs) o) : ∃ C dx vs, o = .ins C dx (ks.zip vs) ∧ cl c = some C ∧ Reps K cl I xs vs ∧ ks.length = xs.length := by
  cases h with
  | obj c r e => exact ⟨_, _, _, rfl, c, r, e⟩
theorem ObjRep.dcn_inv {ks xs} {o : HO} (h : ObjRep K cl I (.dcn ks xs) o) : ∃ a vs bs us, o = .ext (Raw a (entsN ks bs us)) ∧ KeysAt K I ks bs ∧ Reps K cl I xs vs ∧ Vals vs us ∧ ks.length = xs.length ∧ ks.Nodup := by
  cases h with
  | dcn h r v e n => exact ⟨_, _, _, _, rfl, h, r, v, e, n⟩
theorem Rep.dcn_inv {ks xs} {v : V} (h : Rep K cl I (.dcn ks xs) v) : ∃ p a vs bs us, v = .ref p ∧ I p = some (.ext (Raw a (entsN ks bs us))) ∧ KeysAt K I ks bs ∧ Reps K cl I xs vs ∧ Vals vs us ∧ ks.length = xs.length ∧ ks.Nodup := by
  cases h with
  | obj h q =>
    obtain ⟨a, vs, bs, us, rfl, r⟩ := q.dcn_inv
    exact ⟨_, _, _, _, _, rfl, h, r⟩
theorem Rep.tup_inv {xs : List D} {v : V} (h : Rep K cl I (.tup xs) v) : ∃ a vs, v = .ref a ∧ SqT K I a vs ∧ Reps K cl I xs vs := by
  cases h with
  | tup h r => exact ⟨_, _, rfl, h, r⟩
  | obj h q => cases q
theorem Rep.dic_inv {ks xs} {v : V} (h : Rep K cl I (.dic ks xs) v) : ∃ a vs, v = .ref a ∧ Rd I a (.dK (ks.zip vs)) ∧ Reps K cl I xs vs ∧ ks.length = xs.length := by
  cases h with
  | obj h q =>
    cases q with
    | dic r e => exact ⟨_, _, rfl, .inl h, r, e⟩
  | fz h q =>
    cases q with
    | dic r e => exact ⟨_, _, rfl, .inr ⟨_, h⟩, r, e⟩
theorem Rep.ob_inv {c ks xs} {v : V} (h : Rep K cl I (.obj c ks xs) v) : ∃ a C dx vs, v = .ref a ∧ I a = some (.ins C dx (ks.zip vs)) ∧ cl c = some C ∧ Reps K cl I xs vs ∧ ks.length = xs.length := by
  cases h with
  | obj h q =>
    cases q with
    | obj c r e => exact ⟨_, _, _, _, rfl, h, c, r, e⟩
end
/-! ## Tables of code objects: the addresses that cl has under a key with a cross -/
def tabKey (x : String) : String := x ++ "#"
def IsTab (cl : String → Option Addr) (a : Addr) : Prop := ∃ x, cl (tabKey x) = some a
/-! ## Slots: what a name of the def holds, and who may change it -/
inductive Sl where
  | un | imm (d : D) | bor (d : D) | own (d : D) | lck (d : D) | io (k : Nat) (d : D)
abbrev En := List Sl
/-- the entry: what was fixed, what was there, what the callee may change -/
structure G where
  I0 : Hp
  H0 : Hp
  O : List Addr
  /-- what is held beside: a comprehension's list -/
  X : List (Addr × HO) := []
def Top (K : PySem.W.Frag) (cl : String → Option Addr) (I H : Hp) (d : D) (a : Addr) : Prop := ∃ o, H a = some o ∧ ObjRep K cl I d o
def SlotOk (K : PySem.W.Frag) (cl : String → Option Addr) (g : G) (I H : Hp) : Sl → Option V → Prop
  | .un, _ => True
  | .imm d, x => ∃ v, x = some v ∧ Rep K cl I d v
  | .bor d, x => ∃ a, x = some (.ref a) ∧ Top K cl I H d a
  | .own d, x => ∃ a o, x = some (.ref a) ∧ H a = some o ∧ ObjRep K cl I d o ∧ I a = none ∧ g.H0 a = none
  | .lck d, x => ∃ a o, x = some (.ref a) ∧ H a = some o ∧ ObjRep K cl I d o ∧ I a = none ∧ g.H0 a = none
  | .io k d, x => ∃ a o, x = some (.ref a) ∧ g.O[k]? = some a ∧ H a = some o ∧ ObjRep K cl I d o
/-- what may be changed through the slot -/
def Sl.mut : Sl → Bool
  | .own _ => true
  | .lck _ => true
  | .io _ _ => true
  | _ => false
def Sl.top : Sl → Bool
  | .own _ => true
  | .lck _ => true
  | .io _ _ => true
  | .bor _ => true
  | _ => false
structure SR (K : PySem.W.Frag) (cl : String → Option Addr) (g : G) (env : En) (σ : St) (I H : Hp) : Prop where
  sub : Same I H
  i0 : Same g.I0 I
  h0 : ∀ a o, g.H0 a = some o → a ∉ g.O → ¬ IsTab cl a → H a = some o
  hi : ∀ a o, g.H0 a = some o → g.I0 a = none → I a = none
  oh : ∀ a ∈ g.O, (∃ o, H a = some o) ∧ I a = none ∧ ∃ o, g.H0 a = some o
  len : env.length = σ.length
  at_ : ∀ (i : Nat) (s : Sl), env[i]? = some s → ∃ x : Option V, σ[i]? = some x ∧ SlotOk K cl g I H s x
  dis : ∀ (i j : Nat) (s s' : Sl) (a : Addr), i ≠ j → env[i]? = some s → env[j]? = some s' → s.mut = true → s'.top = true → σ[i]? = some (some (.ref a)) → σ[j]? = some (some (.ref a)) → False
  ex : ∀ (a : Addr) (o : HO), (a, o) ∈ g.X → H a = some o ∧ I a = none ∧ ∀ (i : Nat) (s : Sl), env[i]? = some s → s.top = true → σ[i]? ≠ some (some (.ref a))
  ex0 : ∀ (a : Addr) (o : HO), (a, o) ∈ g.X → g.H0 a = none
  tb : ∀ a, IsTab cl a → I a = none ∧ GxR.TabG H a ∧ ∃ o, g.H0 a = some o
section
variable {K : PySem.W.Frag} {cl : String → Option Addr} {g : G} {env : En} {σ : St} {I I' H H' : Hp}
/-- p is new here, and no slot's -/
structure New (g : G) (env : En) (σ : St) (I H : Hp) (p : Addr) (o : HO) : Prop where
  at_ : H p = some o
  i : I p = none
  h0 : g.H0 p = none
  no : ∀ (i : Nat) (s : Sl), env[i]? = some s → s.top = true → σ[i]? ≠ some (some (.ref p))
  x : ∀ o', (p, o') ∉ g.X
theorem SR.fresh0 (R : SR K cl g env σ I H) {p : Addr} (hp : H p = none) : g.H0 p = none := by
  cases e : g.H0 p with
  | none => rfl
  | some o =>
    by_cases hO : p ∈ g.O
    · obtain ⟨⟨o', h⟩, _⟩ := R.oh p hO
      rw [hp] at h; cases h
    · by_cases ht : IsTab cl p
      · obtain ⟨_, ⟨ps, h, _⟩, _⟩ := R.tb p ht
        rw [hp] at h; cases h
      · rw [R.h0 p o e hO ht] at hp; cases hp
theorem SR.freshO (R : SR K cl g env σ I H) {p : Addr} (hp : H p = none) : p ∉ g.O := fun hO => by
  obtain ⟨⟨o', h⟩, _⟩ := R.oh p hO
  rw [hp] at h; cases h
theorem ObjRep.notTab {d : D} {o : HO} (r : ObjRep K cl I d o) {ps : Array Value} (h : o = .tbl ps) : False := by
  subst h; cases r
theorem SR.noTab (R : SR K cl g env σ I H) {a : Addr} {d : D} {o : HO} (h : H a = some o) (r : ObjRep K cl I' d o) : ¬ IsTab cl a := fun t => by
  obtain ⟨_, ⟨ps, h1, _⟩, _⟩ := R.tb a t
  rw [h] at h1
  exact r.notTab (Option.some.inj h1)
theorem Top.mono {d : D} {a : Addr} (t : Top K cl I H d a) (s : Same I I') (s' : ∀ o, H a = some o → H' a = some o) : Top K cl I' H' d a := by
  obtain ⟨o, h, r⟩ := t
  exact ⟨o, s' _ h, r.mono s⟩
theorem Top.there {d : D} {a : Addr} (t : Top K cl I H d a) : ∃ o, H a = some o := let ⟨o, h, _⟩ := t; ⟨o, h⟩
/-- the heap has grown -/
theorem SR.grow (R : SR K cl g env σ I H) (s : Same H H') : SR K cl g env σ I H' where
  sub := R.sub.trans s
  i0 := R.i0
  h0 := fun a o h n t => s _ _ (R.h0 a o h n t)
  hi := R.hi
  oh := fun a h => let ⟨⟨o, h1⟩, h2⟩ := R.oh a h; ⟨⟨o, s _ _ h1⟩, h2⟩
  len := R.len
  at_ := fun i sl h => by
    obtain ⟨x, hx, q⟩ := R.at_ i sl h
    refine ⟨x, hx, ?_⟩
    cases sl with
    | un => trivial
    | imm d => exact q
    | bor d => obtain ⟨a, e, t⟩ := q; exact ⟨a, e, t.mono (Same.refl _) fun o => s _ o⟩
    | own d => obtain ⟨a, o, e, h1, h2⟩ := q; exact ⟨a, o, e, s _ _ h1, h2⟩
    | lck d => obtain ⟨a, o, e, h1, h2⟩ := q; exact ⟨a, o, e, s _ _ h1, h2⟩
    | io k d => obtain ⟨a, o, e, h0, h1, h2⟩ := q; exact ⟨a, o, e, h0, s _ _ h1, h2⟩
  dis := R.dis
  ex := fun a o h => let ⟨h1, h2, h3⟩ := R.ex a o h; ⟨s _ _ h1, h2, h3⟩
  ex0 := R.ex0
  tb := fun a h => let ⟨h1, ⟨ps, h2, h3⟩, h4⟩ := R.tb a h; ⟨h1, ⟨ps, s _ _ h2, h3⟩, h4⟩
theorem Same.new {H : Hp} {p : Addr} {o : HO} (h : H p = none) : Same H (upd H p o) := fun a u e => by
  rw [upd_ne (ne_of_none e h)]; exact e
/-- a new object -/
theorem SR.alloc (R : SR K cl g env σ I H) {p : Addr} (hp : H p = none) (o : HO) : SR K cl g env σ I (upd H p o) := R.grow (Same.new hp)
theorem SR.slot_ne (R : SR K cl g env σ I H) {p : Addr} (hp : H p = none) : ∀ (i : Nat) (s : Sl), env[i]? = some s → s.top = true → σ[i]? ≠ some (some (.ref p)) := fun i s h ht e => by
  obtain ⟨x, hx, q⟩ := R.at_ i s h
  rw [hx] at e
  cases e
  cases s with
  | un => cases ht
  | imm d => cases ht
  | bor d => obtain ⟨a, e, t⟩ := q; cases e; obtain ⟨o, h1⟩ := t.there; rw [hp] at h1; cases h1
  | own d => obtain ⟨a, o, e, h1, _⟩ := q; cases e; rw [hp] at h1; cases h1
  | lck d => obtain ⟨a, o, e, h1, _⟩ := q; cases e; rw [hp] at h1; cases h1
  | io k d => obtain ⟨a, o, e, _, h1, _⟩ := q; cases e; rw [hp] at h1; cases h1
/-- a new object is nobody's -/
theorem SR.new (R : SR K cl g env σ I H) {p : Addr} {o : HO} (hp : H p = none) : New g env σ I (upd H p o) p o := by
  refine ⟨upd_same, ?_, R.fresh0 hp, R.slot_ne hp, fun o' hx => by have := (R.ex p o' hx).1; rw [hp] at this; cases this⟩
  cases e : I p with
  | none => rfl
  | some u =>
    have q := R.sub p u e
    rw [q] at hp; cases hp
end
end Q
namespace Q
open PySem L2
section
variable {K : PySem.W.Frag} {cl : String → Option Addr} {g : G} {env : En} {σ : St} {I I' H H' : Hp}
theorem set_get {α : Type} {l : List α} {i j : Nat} {x y : α} (h : (l.set i x)[j]? = some y) : (j = i ∧ i < l.length ∧ y = x) ∨ (j ≠ i ∧ l[j]? = some y) := by
  by_cases e : j = i
  · subst e
    obtain ⟨h1, h2⟩ := List.getElem?_eq_some_iff.mp h
    rw [List.length_set] at h1
    rw [List.getElem_set_self] at h2
    exact .inl ⟨rfl, h1, h2.symm⟩
  · rw [List.getElem?_set_ne (Ne.symm e)] at h
    exact .inr ⟨e, h⟩
/-- a slot told otherwise -/
theorem SR.reslot (R : SR K cl g env σ I H) {i : Nat} {s s' : Sl} (hs : env[i]? = some s) (h : ∀ x, σ[i]? = some x → SlotOk K cl g I H s x → SlotOk K cl g I H s' x) (hm : s'.mut = true → s.mut = true) (ht : s'.top = true → s.top = true) :
    SR K cl g (env.set i s') σ I H where
  sub := R.sub
  i0 := R.i0
  h0 := R.h0
  hi := R.hi
  oh := R.oh
  len := by rw [List.length_set]; exact R.len
  at_ := fun j u e => by
    rcases set_get e with ⟨rfl, _, rfl⟩ | ⟨_, e⟩
    · obtain ⟨x, hx, q⟩ := R.at_ _ _ hs
      exact ⟨x, hx, h x hx q⟩
    · exact R.at_ j u e
  dis := fun j k u u' a hne e1 e2 h1 h2 => by
    rcases set_get e1 with ⟨rfl, _, rfl⟩ | ⟨n1, f1⟩
    · rcases set_get e2 with ⟨e, _, _⟩ | ⟨n2, e2⟩
      · exact absurd e.symm hne
      · exact R.dis _ k s u' a hne hs e2 (hm h1) h2
    · rcases set_get e2 with ⟨rfl, _, rfl⟩ | ⟨n2, f2⟩
      · exact R.dis j _ u s a hne f1 hs h1 (ht h2)
      · exact R.dis j k u u' a hne f1 f2 h1 h2
  ex := fun a o hx => by
    obtain ⟨h1, h2, h3⟩ := R.ex a o hx
    refine ⟨h1, h2, fun j u e hu => ?_⟩
    rcases set_get e with ⟨rfl, _, rfl⟩ | ⟨_, e⟩
    · exact h3 _ s hs (ht hu)
    · exact h3 j u e hu
  ex0 := R.ex0
  tb := R.tb
/-- a slot forgotten, its place in the frame with anything -/
theorem SR.store (R : SR K cl g env σ I H) {i : Nat} {s' : Sl} {x : Option V} (h : i < σ.length) (hs : SlotOk K cl g I H s' x)
    (hd : ∀ (a : Addr), x = some (.ref a) → s'.top = true → (∀ o, (a, o) ∉ g.X) ∧ ∀ (j : Nat) (s : Sl), j ≠ i → env[j]? = some s → s.top = true → σ[j]? ≠ some (some (.ref a))) :
    SR K cl g (env.set i s') (σ.set i x) I H where
  sub := R.sub
  i0 := R.i0
  h0 := R.h0
  hi := R.hi
  oh := R.oh
  len := by rw [List.length_set, List.length_set]; exact R.len
  at_ := fun j u e => by
    rcases set_get e with ⟨rfl, _, rfl⟩ | ⟨n, e⟩
    · exact ⟨x, List.getElem?_set_self h, hs⟩
    · rw [List.getElem?_set_ne (Ne.symm n)]
      exact R.at_ j u e
  dis := fun j k u u' a hne e1 e2 h1 h2 q1 q2 => by
    have tm : ∀ s : Sl, s.mut = true → s.top = true := fun s h => by cases s <;> first | rfl | cases h
    rcases set_get e1 with ⟨rfl, _, rfl⟩ | ⟨n1, f1⟩
    · rw [List.getElem?_set_self h] at q1
      rcases set_get e2 with ⟨e, _, _⟩ | ⟨n2, f2⟩
      · exact absurd e.symm hne
      · rw [List.getElem?_set_ne (Ne.symm n2)] at q2
        exact (hd a (Option.some.inj q1) (tm _ h1)).2 k u' n2 f2 h2 q2
    · rw [List.getElem?_set_ne (Ne.symm n1)] at q1
      rcases set_get e2 with ⟨rfl, _, rfl⟩ | ⟨n2, f2⟩
      · rw [List.getElem?_set_self h] at q2
        exact (hd a (Option.some.inj q2) h2).2 j u n1 f1 (tm _ h1) q1
      · rw [List.getElem?_set_ne (Ne.symm n2)] at q2
        exact R.dis j k u u' a hne f1 f2 h1 h2 q1 q2
  ex := fun a o hx => by
    obtain ⟨h1, h2, h3⟩ := R.ex a o hx
    refine ⟨h1, h2, fun j u e hu => ?_⟩
    rcases set_get e with ⟨rfl, _, rfl⟩ | ⟨n, e⟩
    · rw [List.getElem?_set_self h]
      intro z
      exact (hd a (Option.some.inj z) hu).1 o hx
    · rw [List.getElem?_set_ne (Ne.symm n)]
      exact h3 j u e hu
  ex0 := R.ex0
  tb := R.tb
theorem SR.setImm (R : SR K cl g env σ I H) {i : Nat} {d : D} {v : V} (h : i < σ.length) (r : Rep K cl I d v) : SR K cl g (env.set i (.imm d)) (σ.set i (some v)) I H :=
  R.store h ⟨v, rfl, r⟩ fun _ _ ht => by cases ht
theorem SR.setUn (R : SR K cl g env σ I H) {i : Nat} {x : Option V} (h : i < σ.length) : SR K cl g (env.set i .un) (σ.set i x) I H :=
  R.store h trivial fun _ _ ht => by cases ht
theorem SR.setOwn (R : SR K cl g env σ I H) {i : Nat} {d : D} {p : Addr} {o : HO} (h : i < σ.length) (n : New g env σ I H p o) (r : ObjRep K cl I d o) : SR K cl g (env.set i (.own d)) (σ.set i (some (.ref p))) I H :=
  R.store h ⟨p, o, rfl, n.at_, r, n.i, n.h0⟩ fun a e _ => by
    cases e
    exact ⟨n.x, fun j s _ hj ht => n.no j s hj ht⟩
/-- what is new is given to all -/
theorem SR.freeze (R : SR K cl g env σ I H) {p : Addr} {o : HO} (n : New g env σ I H p o) : SR K cl g env σ (upd I p o) H ∧ Same I (upd I p o) := by
  have s : Same I (upd I p o) := Same.new n.i
  have np : ∀ (i : Nat) (sl : Sl) (a : Addr), env[i]? = some sl → sl.top = true → σ[i]? = some (some (.ref a)) → a ≠ p := fun i sl a h1 h2 h3 e => by
    subst e
    exact n.no i sl h1 h2 h3
  refine ⟨⟨fun a u e => ?_, R.i0.trans s, R.h0, fun a u e1 e2 => ?_, fun a ha => ?_, R.len, fun i sl h => ?_, R.dis, fun a u hx => ?_, R.ex0, fun a ht => ?_⟩, s⟩
  rotate_right
  · obtain ⟨h1, h2, u, h3⟩ := R.tb a ht
    have h : a ≠ p := fun z => by subst z; rw [n.h0] at h3; cases h3
    rw [upd_ne h]; exact ⟨h1, h2, u, h3⟩
  rotate_right
  · obtain ⟨h1, h2, h3⟩ := R.ex a u hx
    refine ⟨h1, ?_, h3⟩
    rw [upd_ne (fun z => by subst z; exact n.x u hx)]
    exact h2
  · by_cases h : a = p
    · subst h; rw [upd_same] at e; cases e; exact n.at_
    · rw [upd_ne h] at e; exact R.sub a u e
  · have h : a ≠ p := fun z => by subst z; rw [n.h0] at e1; cases e1
    rw [upd_ne h]; exact R.hi a u e1 e2
  · obtain ⟨h1, h2, u, h3⟩ := R.oh a ha
    have h : a ≠ p := fun z => by subst z; rw [n.h0] at h3; cases h3
    rw [upd_ne h]; exact ⟨h1, h2, u, h3⟩
  · obtain ⟨x, hx, q⟩ := R.at_ i sl h
    refine ⟨x, hx, ?_⟩
    cases sl with
    | un => trivial
    | imm d => obtain ⟨v, e, r⟩ := q; exact ⟨v, e, r.mono s⟩
    | bor d => obtain ⟨a, e, t⟩ := q; exact ⟨a, e, t.mono s fun _ h => h⟩
    | own d =>
      obtain ⟨a, u, e, h1, h2, h3, h4⟩ := q
      subst e
      exact ⟨a, u, rfl, h1, h2.mono s, by rw [upd_ne (np i _ a h rfl hx)]; exact h3, h4⟩
    | lck d =>
      obtain ⟨a, u, e, h1, h2, h3, h4⟩ := q
      subst e
      exact ⟨a, u, rfl, h1, h2.mono s, by rw [upd_ne (np i _ a h rfl hx)]; exact h3, h4⟩
    | io k d => obtain ⟨a, u, e, h0, h1, h2⟩ := q; exact ⟨a, u, e, h0, h1, h2.mono s⟩
/-- an own object is given to all: from here on it stands still -/
theorem SR.frz (R : SR K cl g env σ I H) {i : Nat} {d : D} (hs : env[i]? = some (.own d)) : ∃ a o, σ[i]? = some (some (.ref a)) ∧ SR K cl g (env.set i (.imm d)) σ (upd I a o) H ∧ Same I (upd I a o) ∧ Rep K cl (upd I a o) d (.ref a) := by
  obtain ⟨x, hx, a, o, rfl, h1, h2, h3, h4⟩ := R.at_ i _ hs
  have R1 : SR K cl g (env.set i .un) σ I H := R.reslot (s' := .un) hs (fun _ _ _ => trivial) (fun z => by cases z) (fun z => by cases z)
  have hil : i < env.length := (List.getElem?_eq_some_iff.mp hs).1
  have n : New g (env.set i .un) σ I H a o := ⟨h1, h3, h4, fun j s hj ht => by
    rcases set_get hj with ⟨rfl, _, rfl⟩ | ⟨ne, hj⟩
    · cases ht
    · exact fun z => R.dis i j _ s a (Ne.symm ne) hs hj rfl ht hx z, fun o' hX => (R.ex a o' hX).2.2 i _ hs rfl hx⟩
  obtain ⟨R2, s2⟩ := R1.freeze n
  have r : Rep K cl (upd I a o) d (.ref a) := .obj upd_same (h2.mono s2)
  refine ⟨a, o, hx, ?_, s2, r⟩
  have R3 := R2.reslot (i := i) (s := .un) (s' := .imm d) (List.getElem?_set_self hil) (fun y hy _ => ⟨.ref a, by rw [hx] at hy; exact (Option.some.inj hy).symm, r⟩) (fun z => by cases z) (fun z => by cases z)
  rw [List.set_set] at R3
  exact R3
/-- the data of a slot, changed -/
def Sl.put : Sl → D → Sl
  | .own _, d => .own d
  | .io k _, d => .io k d
  | s, _ => s
def Sl.own? : Sl → Option D
  | .own d => some d
  | .io _ d => some d
  | _ => none
theorem own_at (R : SR K cl g env σ I H) {i : Nat} {s : Sl} {d : D} (hs : env[i]? = some s) (ho : s.own? = some d) :
    ∃ a o, σ[i]? = some (some (.ref a)) ∧ H a = some o ∧ ObjRep K cl I d o ∧ I a = none := by
  obtain ⟨x, hx, q⟩ := R.at_ i s hs
  cases s with
  | own d' =>
    cases ho
    obtain ⟨a, u, rfl, h1, h2, h3, h4⟩ := q
    exact ⟨a, u, hx, h1, h2, h3⟩
  | io k d' =>
    cases ho
    obtain ⟨a, u, rfl, h0, h1, h2⟩ := q
    exact ⟨a, u, hx, h1, h2, (R.oh a (List.mem_of_getElem? h0)).2.1⟩
  | un => cases ho
  | imm => cases ho
  | bor => cases ho
  | lck => cases ho
/-- the object of an own slot is changed -/
theorem SR.mutate (R : SR K cl g env σ I H) {i : Nat} {s : Sl} {d d' : D} {a : Addr} {o' : HO} (hs : env[i]? = some s) (ho : s.own? = some d) (ha : σ[i]? = some (some (.ref a))) (r : ObjRep K cl I d' o') :
    SR K cl g (env.set i (s.put d')) σ I (upd H a o') := by
  obtain ⟨a', o, ha', h1, h2, h3⟩ := own_at R hs ho
  rw [ha] at ha'
  cases ha'
  have sm : s.mut = true ∧ s.top = true := by cases s <;> first | exact ⟨rfl, rfl⟩ | cases ho
  have pm : (s.put d').mut = true ∧ (s.put d').top = true := by cases s <;> first | exact ⟨rfl, rfl⟩ | cases ho
  have ne : ∀ (j : Nat) (u : Sl) (b : Addr), j ≠ i → env[j]? = some u → u.top = true → σ[j]? = some (some (.ref b)) → b ≠ a := fun j u b hj k1 k2 k3 e => by
    rw [e] at k3
    exact R.dis i j s u a (Ne.symm hj) hs k1 sm.1 k2 ha k3
  have nt : ¬ IsTab cl a := R.noTab h1 h2
  have h00 : ∀ b u, g.H0 b = some u → b ∉ g.O → b ≠ a := fun b u e1 e2 z => by
    subst z
    obtain ⟨x, hx, q⟩ := R.at_ i s hs
    cases s with
    | own d' => obtain ⟨a, v, rfl, _, _, _, h4⟩ := q; rw [ha] at hx; cases hx; rw [h4] at e1; cases e1
    | io k d' => obtain ⟨a, v, rfl, h0, _⟩ := q; rw [ha] at hx; cases hx; exact e2 (List.mem_of_getElem? h0)
    | un => cases ho
    | imm => cases ho
    | bor => cases ho
    | lck => cases ho
  refine ⟨fun b u e => ?_, R.i0, fun b u e1 e2 e3 => ?_, R.hi, fun b hb => ?_, by rw [List.length_set]; exact R.len, fun j u e => ?_, fun j k u u' b hne e1 e2 m1 m2 => ?_, fun b u hx => ?_, R.ex0, fun b ht => ?_⟩
  rotate_right
  · obtain ⟨t1, ⟨ps, t2, t3⟩, t4⟩ := R.tb b ht
    have hb : b ≠ a := fun z => nt (z ▸ ht)
    exact ⟨t1, ⟨ps, by rw [upd_ne hb]; exact t2, t3⟩, t4⟩
  rotate_right
  · obtain ⟨h1, h2, h3⟩ := R.ex b u hx
    have hb : b ≠ a := fun z => by rw [z] at h3; exact h3 i s hs sm.2 ha
    refine ⟨by rw [upd_ne hb]; exact h1, h2, fun j v e hv => ?_⟩
    rcases set_get e with ⟨rfl, _, rfl⟩ | ⟨n, e⟩
    · exact h3 _ s hs sm.2
    · exact h3 j v e hv
  · rw [upd_ne (fun z => by subst z; rw [h3] at e; cases e)]; exact R.sub b u e
  · rw [upd_ne (h00 b u e1 e2)]; exact R.h0 b u e1 e2 e3
  · obtain ⟨⟨u, q1⟩, q2⟩ := R.oh b hb
    by_cases z : b = a
    · subst z; exact ⟨⟨o', upd_same⟩, q2⟩
    · rw [upd_ne z]; exact ⟨⟨u, q1⟩, q2⟩
  · rcases set_get e with ⟨rfl, _, rfl⟩ | ⟨n, e⟩
    · obtain ⟨x, hx, q⟩ := R.at_ j s hs
      refine ⟨x, hx, ?_⟩
      cases s with
      | own d' => obtain ⟨b, v, hb, _, _, q3, q4⟩ := q; subst hb; rw [ha] at hx; cases hx; exact ⟨_, o', rfl, upd_same, r, q3, q4⟩
      | io k d' => obtain ⟨b, v, hb, q0, _⟩ := q; subst hb; rw [ha] at hx; cases hx; exact ⟨_, o', rfl, q0, upd_same, r⟩
      | un => cases ho
      | imm => cases ho
      | bor => cases ho
      | lck => cases ho
    · obtain ⟨x, hx, q⟩ := R.at_ j u e
      refine ⟨x, hx, ?_⟩
      cases u with
      | un => trivial
      | imm d => exact q
      | bor d =>
        obtain ⟨b, rfl, t⟩ := q
        exact ⟨b, rfl, t.mono (Same.refl _) fun v hv => by rw [upd_ne (ne j _ b n e rfl hx)]; exact hv⟩
      | own d => obtain ⟨b, v, rfl, q1, q2⟩ := q; exact ⟨b, v, rfl, by rw [upd_ne (ne j _ b n e rfl hx)]; exact q1, q2⟩
      | lck d => obtain ⟨b, v, rfl, q1, q2⟩ := q; exact ⟨b, v, rfl, by rw [upd_ne (ne j _ b n e rfl hx)]; exact q1, q2⟩
      | io k d => obtain ⟨b, v, rfl, q0, q1, q2⟩ := q; exact ⟨b, v, rfl, q0, by rw [upd_ne (ne j _ b n e rfl hx)]; exact q1, q2⟩
  · rcases set_get e1 with ⟨rfl, _, rfl⟩ | ⟨n1, f1⟩
    · rcases set_get e2 with ⟨e, _, _⟩ | ⟨n2, f2⟩
      · exact absurd e.symm hne
      · exact R.dis _ k s u' b hne hs f2 sm.1 m2
    · rcases set_get e2 with ⟨rfl, _, rfl⟩ | ⟨n2, f2⟩
      · exact R.dis j _ u s b hne f1 hs m1 sm.2
      · exact R.dis j k u u' b hne f1 f2 m1 m2
end
/-! ## Judgements -/
/-- what stays the same for all contexts of a def's body, or of a block in it -/
structure Zc where
  P : Program
  w : World
  K : PySem.W.Frag
  mg : Str → Option Value
  base : Heap
  N : List Str
  sc : Scope
  k : Nat
  cl : String → Option Addr
  all : Bool
structure InF (Z : Zc) (X : Cx) : Prop where
  prog : X.prog = Z.P
  w : X.w = Z.w
  K : X.K = Z.K
  mg : X.mg = Z.mg
  base : X.base = Z.base
  N : X.N = Z.N
  sc : X.env.scope = Z.sc
  calm : X.calm = true
  room : Room Z.k X.A
  nd : X.N.Nodup
  fn : Z.all = true → ∀ x, X.fn x = true
  own : PassesOwn (model X.prog X.w) X.A X.env X.xe
  gd : X.A.guards = some []
abbrev ME := En → Option (D × En)
abbrev MT := En → Option (Bool × En)
/-- an expression: its value, fixed -/
def SE (Z : Zc) (t : TE) (m : ME) : Prop := ∀ (g : G) (env : En) (σ : St) (I H : Hp) (Q : VK) (d : D) (env' : En), SR Z.K Z.cl g env σ I H → m env = some (d, env') →
  (∀ v I' H', SR Z.K Z.cl g env' σ I' H' → Same I I' → Rep Z.K Z.cl I' d v → Q v H') → t σ H Q
/-- .. a new object, nobody's -/
def SF (Z : Zc) (t : TE) (m : ME) : Prop := ∀ (g : G) (env : En) (σ : St) (I H : Hp) (Q : VK) (d : D) (env' : En), SR Z.K Z.cl g env σ I H → m env = some (d, env') →
  (∀ p o I' H', SR Z.K Z.cl g env' σ I' H' → Same I I' → New g env' σ I' H' p o → ObjRep Z.K Z.cl I' d o → Q (.ref p) H') → t σ H Q
def ST (Z : Zc) (t : TT) (m : MT) : Prop := ∀ (g : G) (env : En) (σ : St) (I H : Hp) (Q : Bool → Hp → Prop) (b : Bool) (env' : En), SR Z.K Z.cl g env σ I H → m env = some (b, env') →
  (∀ I' H', SR Z.K Z.cl g env' σ I' H' → Same I I' → Q b H') → t σ H Q
def EV (Z : Zc) (e : Expr) (m : ME) : Prop := ∃ t, (∀ X, InF Z X → PE X e t) ∧ SE Z t m
def EF (Z : Zc) (e : Expr) (m : ME) : Prop := ∃ t, (∀ X, InF Z X → PE X e t) ∧ SF Z t m
def TV (Z : Zc) (e : Expr) (m : MT) : Prop := ∃ t, (∀ X, InF Z X → PT X e t) ∧ ST Z t m
theorem SF.se {Z : Zc} {t : TE} {m : ME} (h : SF Z t m) : SE Z t m := fun g env σ I H Q d env' R hm k =>
  h g env σ I H Q d env' R hm fun p o I' H' R' s n r => by
    obtain ⟨R2, s2⟩ := R'.freeze n
    exact k _ _ _ R2 (s.trans s2) (.obj upd_same (r.mono s2))
theorem EF.ev {Z : Zc} {e : Expr} {m : ME} (h : EF Z e m) : EV Z e m := let ⟨t, h1, h2⟩ := h; ⟨t, h1, h2.se⟩
/-- what a return hands out: a fixed value, a new object, -/
inductive Md where | imm | new
inductive Fl where
  | nx (env : En) | bk (env : En) | ct (env : En) | ret (md : Md) (d : D) (env : En)
abbrev MS := En → Option Fl
def RetOk (Z : Zc) (g : G) (env : En) (σ : St) (I H : Hp) : Md → D → V → Prop
  | .imm, d, v => Rep Z.K Z.cl I d v
  | .new, d, v => ∃ p o, v = .ref p ∧ New g env σ I H p o ∧ ObjRep Z.K Z.cl I d o
def Post (Z : Zc) (g : G) (I : Hp) (D : Ends) : Fl → Prop
  | .nx env => ∀ σ' I' H', SR Z.K Z.cl g env σ' I' H' → Same I I' → D.nx σ' H'
  | .bk env => ∀ σ' I' H', SR Z.K Z.cl g env σ' I' H' → Same I I' → D.bk σ' H'
  | .ct env => ∀ σ' I' H', SR Z.K Z.cl g env σ' I' H' → Same I I' → D.ct σ' H'
  | .ret md d env => ∀ σ' I' H' v, SR Z.K Z.cl g env σ' I' H' → Same I I' → RetOk Z g env σ' I' H' md d v → D.rt v H'
def SS (Z : Zc) (t : TS) (m : MS) : Prop := ∀ (g : G) (env : En) (σ : St) (I H : Hp) (D : Ends) (fl : Fl), SR Z.K Z.cl g env σ I H → m env = some fl → Post Z g I D fl → t D σ H
def SV (Z : Zc) (st : Stmt) (m : MS) : Prop := ∃ t, (∀ X, InF Z X → PS X st t) ∧ SS Z t m
def BV (Z : Zc) (sts : List Stmt) (m : MS) : Prop := ∃ t, (∀ X, InF Z X → PSs X sts t) ∧ SS Z t m
theorem Post.mono {Z : Zc} {g : G} {I I' : Hp} {D : Ends} {fl : Fl} (s : Same I I') (h : Post Z g I D fl) : Post Z g I' D fl := by
  cases fl with
  | nx env => exact fun σ' J H' R e => h σ' J H' R (s.trans e)
  | bk env => exact fun σ' J H' R e => h σ' J H' R (s.trans e)
  | ct env => exact fun σ' J H' R e => h σ' J H' R (s.trans e)
  | ret md d env => exact fun σ' J H' v R e => h σ' J H' v R (s.trans e)
end Q
namespace Q
open PySem PySem.Spec PyProof.Rows L2
/-! ## Defs where no repr is under way: the stack bears none of its marks -/
abbrev Calmy (A : Around) : Prop := A.guards = some []
structure FnG (P : Program) (w : World) (K : PySem.W.Frag) (mg : Str → Option Value) (base : Heap) (CX : CXT) (k : Nat) (f : Addr) (fd : FuncData) (ps : List Str) (sp : Sp) : Prop where
  ar : ∀ {vs H Q E}, sp vs H Q E → vs.length = ps.length
  go : ∀ {A : Around} {outer : List Env} {s : Shared} {H : Hp} {args : Args} {us : List Value} {vs : List V} {Q : VK} {E : XK}, Room k A → Calmy A →
    Env0 P w K mg base A outer s H → BindsTo s fd args (ps.zip us) → Vals vs us → sp vs H Q E → codeAny (model P w) A (.call (.ref f) args) (CR CX outer P w H s Q E) s
section
variable {P : Program} {w : World} {K : PySem.W.Frag} {mg : Str → Option Value} {base : Heap} {CX : CXT} {j k : Nat} {f : Addr} {fd : FuncData} {ps : List Str} {sp sp' : Sp}
theorem FnG.mono (F : FnG P w K mg base CX j f fd ps sp) (h : j ≤ k) : FnG P w K mg base CX k f fd ps sp := ⟨F.ar, fun hr => F.go (hr.mono h)⟩
theorem FnG.imp (F : FnG P w K mg base CX k f fd ps sp) (h : ∀ vs H Q E, sp' vs H Q E → sp vs H Q E) : FnG P w K mg base CX k f fd ps sp' :=
  ⟨fun q => F.ar (h _ _ _ _ q), fun a1 a2 a3 a4 a5 a6 => F.go a1 a2 a3 a4 a5 (h _ _ _ _ a6)⟩
end
section
variable {X : Cx} {CX : CXT} {k : Nat} {f C : Addr} {fd : FuncData} {ps : List Str} {sp : Sp} {E : XK} {x m : Str} {p pos apos : Pos} {e o : Expr} {es : List Expr} {ta : TE} {t : TA}
  {pins : List (Addr × Obj)} {σ : L2.St} {H : Hp} {s : Shared} {Q : VK} {us : List Value} {vs : List V}
theorem binds0 (hb : Binds X.K fd ps []) (I : Inv X pins σ H s) (h : us.length = ps.length) : BindsTo s fd ⟨us, []⟩ (ps.zip us) := by
  have := hb s us I.kIn (by rw [List.append_nil]; exact h)
  rwa [List.append_nil] at this
theorem FnG.runs (F : FnG X.prog X.w X.K X.mg X.base CX k f fd ps sp) (hr : Room k X.A) (g : Calmy X.A) (hb : Binds X.K fd ps []) (hx : Passes CX X E) (I : Inv X pins σ H s) (r : Vals vs us)
    (h : sp vs H Q E) : wpAny (model X.prog X.w) X.A (call (.ref f) us) (EP X pins σ Q) X.xe s :=
  wpAny_call (codeAny_mono (F.go hr g I.env0 (binds0 hb I (r.length.symm.trans (F.ar h))) r h) fun a b q => match a, q with
    | .error e, q => hx pins σ H s e b I q
    | .ok (.ret u), q => I.after q
    | .ok .next, q => q.elim
    | .ok .brk, q => q.elim
    | .ok .cont, q => q.elim)
theorem FnG.pe (F : FnG X.prog X.w X.K X.mg X.base CX k f fd ps sp) (hr : Room k X.A) (g : Calmy X.A) (hg : Gl X x) (hm : X.mg x = some (.ref f)) (hk : PySem.W.keepIn X.K (.ref f) = true) (hb : Binds X.K fd ps [])
    (hx : Passes CX X E) (ha : PA X (e :: es) t) (hdb : (x == ("__debug__" : Str)) = false) (he : starEach (e :: es) X.env = (false, eval e X.env) :: starEach es X.env)
    (hpl : (backTo pos (starEach es X.env)).any (·.1) = false) : PE X (.Call (.Name x p) (e :: es) [] pos) (tCall sp [] E t) :=
  ⟨fun pins s σ H Q I h => wpAny_Call_Name_kw (ld_glob I hg hm (PySem.W.callWith_K (h₀ := X.base) I.ok.mod.kin hk (thn (ha.run pos pins s σ H _ I h) fun us s1 ⟨vs, H1, I1, r, q⟩ =>
    ⟨I1.kIn, F.runs hr g hb hx I1 r (by simpa using q)⟩) he hpl) hdb)⟩
theorem FnG.peM {pl : Sem Bool} (F : FnG X.prog X.w X.K X.mg X.base CX k f fd ps sp) (hr : Room k X.A) (g : Calmy X.A) (he : PE X o ta) (c : Cls X.K C) (hm : Meth X.K C m f) (hb : Binds X.K fd ps [])
    (hx : Passes CX X E) (ha : PA X (e :: es) t) (hst : starEach (e :: es) X.env = (false, eval e X.env) :: starEach es X.env) (hpl : (backTo pos (starEach es X.env)).any (·.1) = false)
    (ht : eval (.Call (.Attribute o m apos) (e :: es) [] pos) X.env = (do
      let ov ← eval o X.env
      standAt apos.atName
      let (f, first) ← holding [ov] (getMethod ov m pl)
      callWith pos f first (backTo pos (starEach (e :: es) X.env)) (backToKw pos (keywordEach [] X.env)))) :
    PE X (.Call (.Attribute o m apos) (e :: es) [] pos) (tMeth C m sp [] E ta t) :=
  ⟨fun pins s σ H Q I h => PySem.W.methodCall_KW (pl := pl) (thn (he.run pins s σ H _ I h) fun u s1 hh => by
    obtain ⟨y, H1, I1, ry, a, dx, fs, rfl, ea, l, q⟩ := hh
    cases ry
    exact getmeth_ok I1 ea c hm l (PySem.W.callWith_K (first := [.ref a]) (h₀ := X.base) I.ok.mod.kin hm.kp (thn (ha.run pos pins s1 σ H1 _ I1 q) fun us s2 ⟨vs, H2, I2, r, q2⟩ =>
      ⟨I2.kIn, F.runs (us := .ref a :: us) (vs := .ref a :: vs) hr g hb hx I2 (.cons rfl r) (by simpa using q2)⟩) hst hpl)) ht⟩
theorem calmy_make {A : Around} (h : Calmy A) (C : Addr) (us : List Value) (kw : List (Str × Value)) : Calmy (A.under (.builtin "type.__call__" ⟨.ref C :: us, kw⟩)) := by
  have h1 : (Code.builtin "type.__call__" ⟨.ref C :: us, kw⟩).guards = [] := by
    have : (Code.builtin "type.__call__" ⟨.ref C :: us, kw⟩).isGuard = false := by simp [Code.isGuard, guardIds]
    unfold Code.guards; rw [this]; rfl
  unfold Calmy Around.under
  simp only [h1, pushGuards]
  exact h
theorem FnG.peK (F : FnG X.prog X.w X.K X.mg X.base CX k f fd ps sp) (hr : Room (k + 1) X.A) (g : Calmy X.A) (M : Mk X.K C f) (hg : Gl X x) (hm : X.mg x = some (.ref C)) (hb : Binds X.K fd ps [])
    (hx : Passes CX X E) (ha : PA X (e :: es) t) (hdb : (x == ("__debug__" : Str)) = false) (he : starEach (e :: es) X.env = (false, eval e X.env) :: starEach es X.env)
    (hpl : (backTo pos (starEach es X.env)).any (·.1) = false) : PE X (.Call (.Name x p) (e :: es) [] pos) (tMake C sp [] E t) := by
  refine ⟨fun pins s0 σ H0 Q I0 h0 => wpAny_Call_Name_kw (ld_glob I0 hg hm (PySem.W.callWith_K (h₀ := X.base) I0.ok.mod.kin M.kp (thn (ha.run pos pins s0 σ H0 _ I0 h0) fun us s ⟨vs, H, I, r, h⟩ => ⟨I.kIn, ?_⟩) he hpl) hdb)⟩
  have hq := h (s.heap.objs.size + 1) s.heap.objs.size (I.hok.fresh (Nat.le_succ _)) (I.hok.fresh (Nat.le_refl _)) (Nat.ne_of_lt (Nat.lt_succ_self _))
  rw [List.append_nil] at hq
  have J := Inv.made (C := C) I
  have r2 : Vals (V.ref (s.heap.objs.size + 1) :: vs) (Value.ref (s.heap.objs.size + 1) :: us) := .cons rfl r
  refine wpAny_call (make_map (f := f) I.kIn M.makes M.init (beq_iff_eq.mp M.fn) (codeAny_mono (F.go (hr.make C us []) (calmy_make g C us []) (J.env0.make C us []) (binds0 hb J (r2.length.symm.trans (F.ar hq))) r2 hq) fun a b q => ?_))
  match a, q with
  | .error e, q => exact hx pins σ _ _ e b J q
  | .ok (.ret u), q =>
    obtain ⟨v, H', I3, rv, ev, q3⟩ := J.after q
    subst ev
    exact ⟨rv, V.ref (s.heap.objs.size + 1), H', I3, rfl, q3⟩
  | .ok .next, q => exact q.elim
  | .ok .brk, q => exact q.elim
  | .ok .cont, q => exact q.elim
end
/-- a def of the text, by its body -/
theorem fun_okG {CX : CXT} {P : Program} {w : World} {K : PySem.W.Frag} {mg : Str → Option Value} {base : Heap} {x qual : Str} {st : Stmt} {f : Addr} {fd : FuncData} {N ps : List Str} {k : Nat} {sp : Sp} (F : Fun K x qual st f fd)
    (S : FnScope N ps (defScope st)) (len : ∀ {vs H Q E}, sp vs H Q E → vs.length = ps.length)
    (body : ∀ (cdv : Value) (A : Around) (outer : List Env) (s : Shared) (H : Hp) (vs : List V) (Q : VK) (E : XK), Room k (A.deeper (envOfC qual (defScope st) s.heap.objs.size f cdv)) → Calmy A → sp vs H Q E →
      ∃ t, PSs (cxOf CX P w K mg base N qual (defScope st) f cdv A outer s H E) (defBody st) t ∧ t { nx := fun _ H' => Q .non H', rt := Q } (start N vs) H) : FnG P w K mg base CX (k + 1) f fd ps sp := by
  obtain ⟨oc, od, kV, doc, pm, an, cdv, ct, osl, rfl, lk, hcd⟩ := F.ex
  refine ⟨len, fun {A outer s H args us vs Q E} hr hg e0 hb r hsp => ?_⟩
  have keep : ∀ b o, base.get? b = some o → s.heap.get? b = some o := fun b o e => (e0.bs b o e).1
  have KX : K.In s.heap := e0.mod.kin.keeps keep
  refine codeAny_call_function hr.depth (KX _ _ lk) rfl S.co S.gen rfl (PySem.W.codeRec_of KX hcd) (hb _ _ _ _ (wpAny_newFunctionEnv_cells S.kind (fun y hy => ?_) fun env he s1 i1 => ?_))
  · rcases S.par y.1 (List.of_mem_zip hy).1 with q | q
    · exact .inl q
    · exact .inr ⟨q, PySem.W.cellsFrom_some _ _ _ (.inl q)⟩
  · subst he
    obtain ⟨t, ht, hq⟩ := body cdv A outer s H vs Q E (hr.deeper _) hg hsp
    have I := inv_start (CX := CX) (E := E) S hr.hd e0 (len hsp) r i1
    have fin : ∀ {σ' : L2.St} {H' : Hp} {v : V} {u : Value} {z : Shared}, Inv (cxOf CX P w K mg base N qual (defScope st) f cdv A outer s H E) [] σ' H' z → RelV v u → Q v H' → CE outer P w H s Q u z :=
      fun {σ' H' v u z} J rv q => ⟨v, H', J.os, J.bare, J.base, J.hok, rv, q⟩
    refine ⟨(e0.mod.nolimit.keeps keep).keeps i1.toInCall.keep, codeAny_func (wpAny_mono (ht.run [] s1 (start N vs) H _ I hq) (fun fl z hs => ?_) fun _ _ q => q)⟩
    match fl, hs with
    | .ret u, ⟨v, σ', H', J, rv, q⟩ => exact fin J rv q
    | .next, ⟨σ', H', J, q⟩ => exact fin (v := V.non) (u := Value.none) J rfl q
    | .brk, ⟨_, _, _, q⟩ => exact q.elim
    | .cont, ⟨_, _, _, q⟩ => exact q.elim
/-! ### the end: from the law's promise to the law -/
section
variable {P : Program} {w : World} {K : PySem.W.Frag} {mg mb : Str → Option Value} {CX : CXT} {k : Nat} {fa a : Addr} {fd : FuncData} {x : Str} {sp : Sp} {s₁ : Shared} {vs : List Value} {ns : List Int} {H : Hp}
abbrev LawEnds (s₁ : Shared) : Result → Shared → Prop := fun r z => r = .ok (.ret (.bool true)) ∧ OldK s₁.heap z.heap ∧ z.os = s₁.os ∧ AllBare z.gens
/-- from a heap in which the script alone may be told -/
theorem law_from (KX : K.In s₁.heap) (hns : s₁.heap.Ns mainGlobals mg) (hb : s₁.heap.Ns builtinsNs mb) (hbb : ∀ x : Str, x ≠ "__name__" → mb x = bootBuiltins x) (hlim : s₁.heap.NoLimit) (hg : s₁.gens = #[])
    (ha : s₁.heap.get? a = some { cls := .type "list", data := .seq vs.toArray }) (hr : Room k callerA) (F : ∀ base : Heap, K.In base → base.Ns mainGlobals mg → FnG P w K mg base CX k fa fd [x] sp)
    (hbind : ∀ (s : Shared) (u : Value), BindsTo s fd ⟨[u], []⟩ [(x, u)]) (hO : Only H) (hok : HOk P w H s₁.heap) (hA : ∀ b u, H b = some u → b = a) (hK : ∀ u, H a = some u → K.lookup a = none)
    (hsp : sp [.ref a] H (fun v _ => v = .bl true) fun _ _ _ => False) (hCX : ∀ e z, CX [] H s₁ (fun _ _ _ => False) e z → False) :
    codeAny (model P w) callerA (.call (.ref fa) ⟨[.ref a], []⟩) (LawEnds s₁) s₁ := by
  have dictFree : ∀ {b : Addr} {o : Obj} {es : Array DictEntry} {n : Nat}, s₁.heap.get? b = some o → o.data = .dict es n → H b = none := by
    intro b o es n e d
    match q : H b with
    | none => rfl
    | some u => cases hA b u q; rw [ha] at e; cases e; cases d
  have ns2 : ∀ {b : Addr} {m : Str → Option Value}, s₁.heap.Ns b m → (hidT s₁.heap H).Ns b m := fun ⟨o, es, n, e, d, r⟩ => ⟨o, es, n, hidT_get e (dictFree e d), d, r⟩
  have K2 : K.In (hidT s₁.heap H) := fun b o e => hidT_get (KX b o e) (by
    match q : H b with
    | none => rfl
    | some u => cases hA b u q; rw [hK u q] at e; cases e)
  have E0 : Env0 P w K mg (hidT s₁.heap H) callerA [] s₁ H := {
    frames := rfl
    mod := ⟨K2, ns2 hns, ⟨mb, ns2 hb, hbb⟩, let ⟨mc, h1, h2⟩ := hlim; ⟨mc, ns2 h1, h2⟩⟩
    bs := fun b o e => of_hidT e
    bsz := Nat.le_of_eq (hidT_size _ _)
    funs := trivial
    frf := fun b hb => nomatch hb
    hok := hok
    bare := .of_eq hg }
  refine codeAny_mono ((F _ K2 (ns2 hns)).go hr rfl E0 (us := [.ref a]) (vs := [.ref a]) (hbind s₁ (.ref a)) (.cons rfl .nil) hsp) fun r z q => ?_
  match r, q with
  | .error e, q => exact (hCX e z q).elim
  | .ok (.ret u), ⟨v, H', os, bare, un, hok', rv, hv⟩ =>
    cases hv
    cases rv
    refine ⟨rfl, OldK.of_keep fun b o e => ?_, os, bare⟩
    match hb : H b with
    | none => exact un.keep b o e hb (fun z => nomatch z) (by simp)
    | some u =>
      rcases hO b with z | ⟨ob, xs, z⟩
      · rw [hb] at z; cases z
      · have e1 := (hok b _ z).1
        rw [e] at e1
        cases e1
        exact (hok' b _ (un.frzs b _ _ z)).1
end
theorem vals_of_ints : ∀ {vs : List Value} {ns : List Int}, IntsAre vs ns → Vals (ns.map V.int) vs
  | _, _, .nil => .nil
  | _, _, .cons n t h => .cons ⟨t, rfl⟩ (vals_of_ints h)
/-- what k_head leaves, from the law's promise -/
theorem walk_G {l : PySem.W.OpenLaw} {n k : Nat} {q : Program} {loose : List Str} {XP : (Str → Option Value) → Heap → Prop} {YP : World → Heap → Prop} {d : DefRec} {K : Params → PySem.W.Frag} {CX : CXT} {sp : PySem.W.Frag → Sp} {x : Str}
    (hn : l.most = some n) (hn2 : n ≤ sizeLine) (hdf : d.params.defaults = []) (hr : Room k callerA) (hY : ∀ (w : World) (h : Heap), YP w h → (K w.params).In h)
    (F : ∀ (w : World) (mg : Str → Option Value) (fa : Addr) (h : Heap), (K w.params).In h → h.Ns mainGlobals mg → mg d.name = some (.ref fa) → ∃ fd : FuncData, (∀ (s : Shared) (u : Value), BindsTo s fd ⟨[u], []⟩ [(x, u)]) ∧
      ∀ base : Heap, (K w.params).In base → base.Ns mainGlobals mg → FnG l.prog w (K w.params) mg base CX k fa fd [x] (sp (K w.params)))
    (hsp : ∀ (K : PySem.W.Frag) (H : Hp) (a : Addr) (ns : List Int), ns.length ≤ n → SqL K H a (ns.map V.int) → sp K [.ref a] H (fun v _ => v = .bl true) fun _ _ _ => False)
    (hCX : ∀ (H : Hp) (s : Shared) (e : Value) (z : Shared), CX [] H s (fun _ _ _ => False) e z → False) : PySem.W.WalkO q loose XP YP l.row.toRowW d [] (fun f vs => PySem.call f vs) := by
  refine Att.attach_call hn hdf fun w s₀ s₁ mg mb fa o pm cd doc a vs ns G Y _ _ _ hmg ha hints hlen hg => ?_
  have KX := hY w _ Y
  obtain ⟨fd, hb, hF⟩ := F w mg fa _ KX G.T.g hmg
  have rv := vals_of_ints hints
  have hl := hints.length
  have hz : (ns.map V.int).length ≤ sizeLine := by rw [List.length_map]; omega
  have sz : vs.toArray.size ≤ sizeLine := by rw [List.size_toArray, hl]; omega
  have base := fun H => law_from (H := H) KX G.T.g G.T.b G.T.builtins G.T.nolimit hg ha hr hF hb
  match hk : (K w.params).lookup a with
  | some o =>
    have e := KX a o hk
    rw [ha] at e
    cases e
    exact base (fun _ => none) (fun _ => .inl rfl) (fun b u z => nomatch (show (none : Option HO) = some u from z)) (fun b u z => nomatch (show (none : Option HO) = some u from z)) (fun u z => nomatch (show (none : Option HO) = some u from z))
      (hsp _ _ a ns hlen (.inr ⟨_, vs.toArray, _, hk, rfl, rfl, rfl, sz, by simpa using rv⟩)) fun e z => hCX _ _ e z
  | none =>
    have at_ : ∀ {b : Addr} {u v : HO}, (if b = a then some v else none) = some u → b = a ∧ u = v := fun {b u v} z => by
      split at z
      · rename_i h; cases z; exact ⟨h, rfl⟩
      · cases z
    refine base (fun b => if b = a then some (.frz { cls := .type "list", data := .seq vs.toArray } (.lst (ns.map V.int))) else none) (fun b => ?_) (fun b u z => ?_) (fun b u z => (at_ z).1) (fun _ _ => hk) (hsp _ _ a ns hlen (.inl (.inr ⟨_, if_pos rfl⟩))) fun e z => hCX _ _ e z
    · by_cases h : b = a
      · exact .inr ⟨_, _, if_pos h⟩
      · exact .inl (if_neg h)
    · obtain ⟨rfl, rfl⟩ := at_ z
      exact ⟨ha, hz, vs, _, rv, ha⟩
end Q
namespace Q
open PySem L2
section
variable {Z : Zc}
/-! ### names, constants -/
def Sl.imm? : Sl → Option D
  | .imm d => some d
  | _ => none
/-- a name's value: fixed, or given to all from here on -/
def mVar (i : Nat) : ME := fun env => match env[i]? with
  | some (.imm d) => some (d, env)
  | some (.own d) => some (d, env.set i (.imm d))
  | _ => none
def mC (d : D) : ME := fun env => some (d, env)
theorem visOf {X : Cx} {x : Str} (h : InF Z X) (hv : Vis Z.sc x) : Vis X.env.scope x := by rw [h.sc]; exact hv
theorem ev_var {i : Nat} {x : Str} {pos : Pos} (hN : Z.N[i]? = some x) (hv : Vis Z.sc x) (hd : (x == ("__debug__" : Str)) = false := by decide) (hcd : (x == ("__classdict__" : Str)) = false := by decide) : EV Z (.Name x pos) (mVar i) := by
  refine ⟨tVar i, fun X h => pe_var (by rw [h.N]; exact hN) (visOf h hv) hd hcd, fun g env σ I H Q d env' R hm k => ?_⟩
  unfold mVar at hm
  split at hm
  · rename_i d' e
    cases hm
    obtain ⟨x, hx, v, rfl, r⟩ := R.at_ i _ e
    exact ⟨v, hx, k v I H R (Same.refl _) r⟩
  · rename_i d' e
    cases hm
    obtain ⟨a, o, hx, R', s, r⟩ := R.frz e
    exact ⟨.ref a, hx, k _ _ H R' s r⟩
  · cases hm
theorem ev_c {e : Expr} {d : D} {v : V} (h : ∀ X, InF Z X → PE X e (tC v)) (r : ∀ I, Rep Z.K Z.cl I d v) : EV Z e (mC d) :=
  ⟨tC v, h, fun g env σ I H Q d' env' R hm k => by cases hm; exact k v I H R (Same.refl _) (r I)⟩
theorem ev_int {i : Int} {j pos} : EV Z (.Constant (.int i) j pos) (mC (.int i)) := ev_c (fun _ _ => pe_int) fun _ => .int
theorem ev_str {i : Str} {j pos} : EV Z (.Constant (.str i) j pos) (mC (.str i)) := ev_c (fun _ _ => pe_str) fun _ => .str
theorem ev_bl {i : Bool} {j pos} : EV Z (.Constant (.bool i) j pos) (mC (.bl i)) := ev_c (fun _ _ => pe_bl) fun _ => .bl
theorem ev_non {j pos} : EV Z (.Constant .none j pos) (mC .non) := ev_c (fun _ _ => pe_non) fun _ => .non
def GlZ (Z : Zc) (x : Str) : Prop := Z.sc.names.lookup x = some .globalImplicit
theorem glOf {X : Cx} {x : Str} (h : InF Z X) (hg : GlZ Z x) : Gl X x := by
  show X.env.scope.names.lookup x = _
  rw [h.sc]; exact hg
theorem ev_glob {x : Str} {pos : Pos} {s : Str} (hg : GlZ Z x) (hm0 : ∃ t, Z.mg x = some (.str s t)) (hd : (x == ("__debug__" : Str)) = false := by decide) : EV Z (.Name x pos) (mC (.str s)) :=
  let ⟨t, hm⟩ := hm0
  ev_c (v := .str s) (fun X h => pe_glob (glOf h hg) (by rw [h.mg]; exact hm) ⟨t, rfl⟩ hd) fun _ => .str
theorem ev_globI {x : Str} {pos : Pos} {s : Int} (hg : GlZ Z x) (hm0 : ∃ t, Z.mg x = some (.int s t)) (hd : (x == ("__debug__" : Str)) = false := by decide) : EV Z (.Name x pos) (mC (.int s)) :=
  let ⟨t, hm⟩ := hm0
  ev_c (v := .int s) (fun X h => pe_glob (glOf h hg) (by rw [h.mg]; exact hm) ⟨t, rfl⟩ hd) fun _ => .int
/-- a built-in type's name -/
theorem ev_ty {x : Str} {pos : Pos} {n : String} (hg : GlZ Z x) (hm : Z.mg x = none) (hv : bootBuiltins x = some (.type n)) (hn : x ≠ "__name__" := by decide) (hd : (x == ("__debug__" : Str)) = false := by decide) : EV Z (.Name x pos) (mC (.typ n)) :=
  ev_c (v := .ty n) (fun X h => pe_bltn (glOf h hg) (by rw [h.mg]; exact hm) hv rfl hn hd) fun _ => .typ
/-! ### what may be read at a slot -/
inductive Ls where
  | fix (d : D) | slot (i : Nat)
def Sl.rd : Sl → Option D
  | .un => none
  | .imm d => some d
  | .bor d => some d
  | .own d => some d
  | .lck d => some d
  | .io _ d => some d
def Ls.get (l : Ls) (env : En) : Option D := match l with
  | .fix d => some d
  | .slot i => env[i]?.bind Sl.rd
abbrev ML := En → Option (Ls × En)
/-- readable here: fixed, or its top object as it stands -/
def Rb (Z : Zc) (I H : Hp) (d : D) (v : V) : Prop := Rep Z.K Z.cl I d v ∨ ∃ a, v = .ref a ∧ Top Z.K Z.cl I H d a
def LsOk (Z : Zc) (I : Hp) (σ : St) : Ls → V → Prop
  | .fix d, v => Rep Z.K Z.cl I d v
  | .slot i, v => σ[i]? = some (some v)
theorem Ls.rb {g : G} {env : En} {σ : St} {I H : Hp} {l : Ls} {v : V} {d : D} (R : SR Z.K Z.cl g env σ I H) (h : LsOk Z I σ l v) (hg : l.get env = some d) : Rb Z I H d v := by
  cases l with
  | fix d' => cases hg; exact .inl h
  | slot i =>
    change env[i]?.bind Sl.rd = some d at hg
    cases e : env[i]? with
    | none => rw [e] at hg; cases hg
    | some s =>
      rw [e] at hg
      obtain ⟨x, hx, q⟩ := R.at_ i s e
      rw [show σ[i]? = some (some v) from h] at hx
      cases hx
      cases s with
      | un => cases hg
      | imm d' => cases hg; obtain ⟨u, hu, r⟩ := q; cases hu; exact .inl r
      | bor d' => cases hg; obtain ⟨a, hu, r⟩ := q; cases hu; exact .inr ⟨a, rfl, r⟩
      | own d' => cases hg; obtain ⟨a, o, hu, h1, h2, _⟩ := q; cases hu; exact .inr ⟨a, rfl, o, h1, h2⟩
      | lck d' => cases hg; obtain ⟨a, o, hu, h1, h2, _⟩ := q; cases hu; exact .inr ⟨a, rfl, o, h1, h2⟩
      | io k d' => cases hg; obtain ⟨a, o, hu, _, h1, h2⟩ := q; cases hu; exact .inr ⟨a, rfl, o, h1, h2⟩
def SL (Z : Zc) (t : TE) (m : ML) : Prop := ∀ (g : G) (env : En) (σ : St) (I H : Hp) (Q : VK) (l : Ls) (env' : En), SR Z.K Z.cl g env σ I H → m env = some (l, env') →
  (∀ v I' H', SR Z.K Z.cl g env' σ I' H' → Same I I' → LsOk Z I' σ l v → Q v H') → t σ H Q
def LV (Z : Zc) (e : Expr) (m : ML) : Prop := ∃ t, (∀ X, InF Z X → PE X e t) ∧ SL Z t m
def lVar (i : Nat) : ML := fun env => (env[i]?.bind Sl.rd).map fun _ => (.slot i, env)
def lFix (m : ME) : ML := fun env => (m env).map fun p => (.fix p.1, p.2)
theorem lv_var {i : Nat} {x : Str} {pos : Pos} (hN : Z.N[i]? = some x) (hv : Vis Z.sc x) (hd : (x == ("__debug__" : Str)) = false := by decide) (hcd : (x == ("__classdict__" : Str)) = false := by decide) : LV Z (.Name x pos) (lVar i) := by
  refine ⟨tVar i, fun X h => pe_var (by rw [h.N]; exact hN) (visOf h hv) hd hcd, fun g env σ I H Q l env' R hm k => ?_⟩
  unfold lVar at hm
  cases e : env[i]? with
  | none => rw [e] at hm; cases hm
  | some s =>
    rw [e] at hm
    obtain ⟨x, hx, q⟩ := R.at_ i _ e
    have fin : ∀ v, x = some v → (l, env') = (Ls.slot i, env) → ∃ v, σ[i]? = some (some v) ∧ Q v H := fun v hxv he => by
      cases he
      subst hxv
      exact ⟨v, hx, k v I H R (Same.refl _) hx⟩
    cases s with
    | un => cases hm
    | imm d => cases hm; obtain ⟨v, e, _⟩ := q; exact fin v e rfl
    | bor d => cases hm; obtain ⟨v, e, _⟩ := q; exact fin _ e rfl
    | own d => cases hm; obtain ⟨v, o, e, _⟩ := q; exact fin _ e rfl
    | lck d => cases hm; obtain ⟨v, o, e, _⟩ := q; exact fin _ e rfl
    | io j d => cases hm; obtain ⟨v, o, e, _⟩ := q; exact fin _ e rfl
theorem lv_ev {e : Expr} {m : ME} (h : EV Z e m) : LV Z e (lFix m) := by
  obtain ⟨t, h1, h2⟩ := h
  refine ⟨t, h1, fun g env σ I H Q l env' R hm k => ?_⟩
  unfold lFix at hm
  cases e : m env with
  | none => rw [e] at hm; cases hm
  | some p =>
    rw [e] at hm
    cases hm
    exact h2 g env σ I H Q p.1 p.2 R e k
theorem LsOk.mono {I I' : Hp} {σ : St} {l : Ls} {v : V} (s : Same I I') (h : LsOk Z I σ l v) : LsOk Z I' σ l v := by
  cases l with
  | fix d => exact Rep.mono s h
  | slot i => exact h
/-- reading ops -/
theorem Rb.int {I H : Hp} {i : Int} {v : V} (h : Rb Z I H (.int i) v) : v = .int i := by
  rcases h with h | ⟨a, _, o, _, h⟩
  · exact h.int_inv
  · cases h
theorem Rb.str {I H : Hp} {i : Str} {v : V} (h : Rb Z I H (.str i) v) : v = .str i := by
  rcases h with h | ⟨a, _, o, _, h⟩
  · exact h.str_inv
  · cases h
theorem Rb.bl {I H : Hp} {i : Bool} {v : V} (h : Rb Z I H (.bl i) v) : v = .bl i := by
  rcases h with h | ⟨a, _, o, _, h⟩
  · exact h.bl_inv
  · cases h
theorem Rb.non {I H : Hp} {v : V} (h : Rb Z I H .non v) : v = .non := by
  rcases h with h | ⟨a, _, o, _, h⟩
  · exact h.non_inv
  · cases h
theorem Rb.typ {I H : Hp} {n : String} {v : V} (h : Rb Z I H (.typ n) v) : v = .ty n := by
  rcases h with h | ⟨a, _, o, _, h⟩
  · exact h.typ_inv
  · cases h
theorem Rb.lst {I H : Hp} {xs : List D} {v : V} (s : Same I H) (h : Rb Z I H (.lst xs) v) : ∃ a vs, v = .ref a ∧ H a = some (.lst vs) ∧ Reps Z.K Z.cl I xs vs := by
  rcases h with h | ⟨a, rfl, o, e, h⟩
  · obtain ⟨a, vs, rfl, e, r⟩ := h.lst_inv
    exact ⟨a, vs, rfl, s _ _ e, r⟩
  · obtain ⟨vs, rfl, r⟩ := h.lst_inv
    exact ⟨a, vs, rfl, e, r⟩
theorem Rb.scr {I H : Hp} {xs : List D} {v : V} (s : Same I H) (h : Rb Z I H (.scr xs) v) : ∃ a vs, v = .ref a ∧ SqL Z.K H a vs ∧ Reps Z.K Z.cl I xs vs := by
  rcases h with h | ⟨a, rfl, o, e, h⟩
  · obtain ⟨a, vs, rfl, e, r⟩ := h.scr_inv
    exact ⟨a, vs, rfl, s.seq e, r⟩
  · cases h
theorem SqT.mono {K : PySem.W.Frag} {I I' : Hp} {a : Addr} {vs : List V} (s : Same I I') (h : SqT K I a vs) : SqT K I' a vs := by
  rcases h with (h | ⟨o, h⟩) | h
  · exact .inl (.inl (s _ _ h))
  · exact .inl (.inr ⟨o, s _ _ h⟩)
  · exact .inr h
theorem Rb.tup {I H : Hp} {xs : List D} {v : V} (s : Same I H) (h : Rb Z I H (.tup xs) v) : ∃ a vs, v = .ref a ∧ SqT Z.K H a vs ∧ Reps Z.K Z.cl I xs vs := by
  rcases h with h | ⟨a, rfl, o, e, h⟩
  · obtain ⟨a, vs, rfl, e, r⟩ := h.tup_inv
    exact ⟨a, vs, rfl, SqT.mono s e, r⟩
  · cases h
theorem Rb.dic {I H : Hp} {ks xs} {v : V} (s : Same I H) (h : Rb Z I H (.dic ks xs) v) : ∃ a vs, v = .ref a ∧ Rd H a (.dK (ks.zip vs)) ∧ Reps Z.K Z.cl I xs vs ∧ ks.length = xs.length := by
  rcases h with h | ⟨a, rfl, o, e, h⟩
  · obtain ⟨a, vs, rfl, e, r, l⟩ := h.dic_inv
    rcases e with e | ⟨od, e⟩
    · exact ⟨a, vs, rfl, .inl (s _ _ e), r, l⟩
    · exact ⟨a, vs, rfl, .inr ⟨od, s _ _ e⟩, r, l⟩
  · obtain ⟨vs, rfl, r, l⟩ := h.dic_inv
    exact ⟨a, vs, rfl, .inl e, r, l⟩
theorem Rb.ob {I H : Hp} {c ks xs} {v : V} (s : Same I H) (h : Rb Z I H (.obj c ks xs) v) : ∃ a C dx vs, v = .ref a ∧ H a = some (.ins C dx (ks.zip vs)) ∧ Z.cl c = some C ∧ Reps Z.K Z.cl I xs vs ∧ ks.length = xs.length := by
  rcases h with h | ⟨a, rfl, o, e, h⟩
  · obtain ⟨a, C, dx, vs, rfl, e, q, r, l⟩ := h.ob_inv
    exact ⟨a, C, dx, vs, rfl, s _ _ e, q, r, l⟩
  · obtain ⟨C, dx, vs, rfl, q, r, l⟩ := h.ob_inv
    exact ⟨a, C, dx, vs, rfl, e, q, r, l⟩
/-! ### two readable operands, a fixed value -/
/-- a rule by values gives what f tells -/
def RuleOk (Z : Zc) (r : R2) (f : D → D → Option D) : Prop := ∀ (I H : Hp) (x y z : D) (vx vy : V) (Q : VK), Same I H → Rb Z I H x vx → Rb Z I H y vy → f x y = some z → (∀ vz, Rep Z.K Z.cl I z vz → Q vz H) → r vx vy H Q
/-- .. a new object -/
def RuleNew (Z : Zc) (r : R2) (f : D → D → Option D) : Prop := ∀ (I H : Hp) (x y z : D) (vx vy : V) (Q : VK), Same I H → Rb Z I H x vx → Rb Z I H y vy → f x y = some z →
  (∀ p o, H p = none → ObjRep Z.K Z.cl I z o → Q (.ref p) (upd H p o)) → r vx vy H Q
def mBin (f : D → D → Option D) (a b : ML) : ME := fun env => (a env).bind fun p => (b p.2).bind fun q => (p.1.get q.2).bind fun x => (q.1.get q.2).bind fun y => (f x y).map fun z => (z, q.2)
theorem mBin_inv {f : D → D → Option D} {a b : ML} {env env' : En} {z : D} (h : mBin f a b env = some (z, env')) :
    ∃ la e1 lb x y, a env = some (la, e1) ∧ b e1 = some (lb, env') ∧ la.get env' = some x ∧ lb.get env' = some y ∧ f x y = some z := by
  unfold mBin at h
  cases h1 : a env with
  | none => rw [h1] at h; cases h
  | some p =>
    rw [h1] at h
    simp only [Option.bind_some] at h
    cases h2 : b p.2 with
    | none => rw [h2] at h; cases h
    | some q =>
      rw [h2] at h
      simp only [Option.bind_some] at h
      cases h3 : p.1.get q.2 with
      | none => rw [h3] at h; cases h
      | some x =>
        rw [h3] at h
        simp only [Option.bind_some] at h
        cases h4 : q.1.get q.2 with
        | none => rw [h4] at h; cases h
        | some y =>
          rw [h4] at h
          simp only [Option.bind_some] at h
          cases h5 : f x y with
          | none => rw [h5] at h; cases h
          | some w =>
            rw [h5] at h
            cases h
            exact ⟨_, _, _, _, _, rfl, h2, h3, h4, h5⟩
theorem bin_se {r : R2} {f : D → D → Option D} {ta tb : TE} {ma mb : ML} (hr : RuleOk Z r f) (ha : SL Z ta ma) (hb : SL Z tb mb) : SE Z (tOp r ta tb) (mBin f ma mb) := by
  intro g env σ I H Q d env' R hm k
  obtain ⟨la, e1, lb, x, y, h1, h2, h3, h4, h5⟩ := mBin_inv hm
  refine ha g env σ I H _ la e1 R h1 fun vx I1 H1 R1 s1 o1 => ?_
  refine hb g e1 σ I1 H1 _ lb env' R1 h2 fun vy I2 H2 R2 s2 o2 => ?_
  exact hr I2 H2 x y d vx vy Q R2.sub (Ls.rb R2 (o1.mono s2) h3) (Ls.rb R2 o2 h4) h5 fun vz rz => k vz I2 H2 R2 (s1.trans s2) rz
theorem bin_sf {r : R2} {f : D → D → Option D} {ta tb : TE} {ma mb : ML} (hr : RuleNew Z r f) (ha : SL Z ta ma) (hb : SL Z tb mb) : SF Z (tOp r ta tb) (mBin f ma mb) := by
  intro g env σ I H Q d env' R hm k
  obtain ⟨la, e1, lb, x, y, h1, h2, h3, h4, h5⟩ := mBin_inv hm
  refine ha g env σ I H _ la e1 R h1 fun vx I1 H1 R1 s1 o1 => ?_
  refine hb g e1 σ I1 H1 _ lb env' R1 h2 fun vy I2 H2 R2 s2 o2 => ?_
  exact hr I2 H2 x y d vx vy Q R2.sub (Ls.rb R2 (o1.mono s2) h3) (Ls.rb R2 o2 h4) h5 fun p o hp ro => k p o I2 (upd H2 p o) (R2.alloc hp o) (s1.trans s2) (R2.new hp) ro
theorem ev_op {op : Operator} {r : R2} {f : D → D → Option D} {a b : Expr} {ma mb : ML} {pos : Pos} (ho : ∀ X, InF Z X → OpR X (binaryOp op) r) (hr : RuleOk Z r f) (ha : LV Z a ma) (hb : LV Z b mb) : EV Z (.BinOp a op b pos) (mBin f ma mb) := by
  obtain ⟨ta, a1, a2⟩ := ha
  obtain ⟨tb, b1, b2⟩ := hb
  exact ⟨_, fun X h => pe_op (ho X h) (a1 X h) (b1 X h), bin_se hr a2 b2⟩
theorem ef_op {op : Operator} {r : R2} {f : D → D → Option D} {a b : Expr} {ma mb : ML} {pos : Pos} (ho : ∀ X, InF Z X → OpR X (binaryOp op) r) (hr : RuleNew Z r f) (ha : LV Z a ma) (hb : LV Z b mb) : EF Z (.BinOp a op b pos) (mBin f ma mb) := by
  obtain ⟨ta, a1, a2⟩ := ha
  obtain ⟨tb, b1, b2⟩ := hb
  exact ⟨_, fun X h => pe_op (ho X h) (a1 X h) (b1 X h), bin_sf hr a2 b2⟩
theorem ev_cmp {op : CmpOp} {r : R2} {f : D → D → Option D} {a b : Expr} {ma mb : ML} {pos : Pos} (ho : ∀ X, InF Z X → OpR X (compareOp op) r) (hr : RuleOk Z r f) (ha : LV Z a ma) (hb : LV Z b mb) (hm : behindInMarks op b = false) : EV Z (.Compare a [op] [b] pos) (mBin f ma mb) := by
  obtain ⟨ta, a1, a2⟩ := ha
  obtain ⟨tb, b1, b2⟩ := hb
  exact ⟨_, fun X h => pe_cmpR (ho X h) (a1 X h) (b1 X h) hm, bin_se hr a2 b2⟩
/-! ### tests -/
def mTest (m : ME) : MT := fun env => (m env).bind fun p => match p.1 with
  | .bl b => some (b, p.2)
  | _ => none
theorem mTest_inv {m : ME} {env env' : En} {b : Bool} (h : mTest m env = some (b, env')) : m env = some (.bl b, env') := by
  unfold mTest at h
  cases h1 : m env with
  | none => rw [h1] at h; cases h
  | some p =>
    rw [h1] at h
    obtain ⟨d, e⟩ := p
    cases d <;> first | (cases h; rfl) | cases h
theorem tv_cmp {op : CmpOp} {r : R2} {f : D → D → Option D} {a b : Expr} {ma mb : ML} {pos : Pos} (ho : ∀ X, InF Z X → OpR X (compareOp op) r) (hr : RuleOk Z r f) (ha : LV Z a ma) (hb : LV Z b mb) (hm : behindInMarks op b = false) : TV Z (.Compare a [op] [b] pos) (mTest (mBin f ma mb)) := by
  obtain ⟨ta, a1, a2⟩ := ha
  obtain ⟨tb, b1, b2⟩ := hb
  refine ⟨_, fun X h => pt_cmpR (ho X h) (a1 X h) (b1 X h) hm, fun g env σ I H Q c env' R hm k => ?_⟩
  refine bin_se hr a2 b2 g env σ I H _ _ env' R (mTest_inv hm) fun v I' H' R' s rv => ?_
  exact ⟨c, rv.bl_inv, k I' H' R' s⟩
end
end Q
namespace Q
open PySem L2
section
variable {Z : Zc}
/-! ### arithmetic -/
def dAdd : D → D → Option D
  | .int a, .int b => some (.int (a + b))
  | .str a, .str b => if a.length + b.length ≤ sizeLine then some (.str (a ++ b)) else none
  | _, _ => none
def rAddE : R2 := fun x y H Q => rI0 (fun i j => .int (i + j)) x y H Q ∨ ∃ i j, x = .str i ∧ y = .str j ∧ i.length + j.length ≤ sizeLine ∧ Q (.str (i ++ j)) H
theorem ok_add : RuleOk Z rAddE dAdd := by
  intro I H x y z vx vy Q s rx ry h k
  unfold dAdd at h
  split at h
  · cases h; cases rx.int; cases ry.int; exact .inl ⟨_, _, rfl, rfl, k _ .int⟩
  · split at h
    · rename_i hl; cases h; cases rx.str; cases ry.str; exact .inr ⟨_, _, rfl, rfl, hl, k _ .str⟩
    · cases h
  · cases h
theorem or_add {X : Cx} : OpR X (binaryOp .Add) rAddE := OpR.or op_add op_add_str
def dSub : D → D → Option D
  | .int a, .int b => some (.int (a - b))
  | _, _ => none
theorem ok_sub : RuleOk Z (rI0 fun i j => .int (i - j)) dSub := by
  intro I H x y z vx vy Q s rx ry h k
  unfold dSub at h
  split at h
  · cases h; cases rx.int; cases ry.int; exact ⟨_, _, rfl, rfl, k _ .int⟩
  · cases h
instance (i j : Int) : Decidable (CMul i j) := by unfold CMul; exact inferInstance
instance (i j : Int) : Decidable (CDiv i j) := by unfold CDiv; exact inferInstance
instance (i j : Int) : Decidable (CPow i j) := by unfold CPow; exact inferInstance
def dMul : D → D → Option D
  | .int a, .int b => if CMul a b then some (.int (a * b)) else none
  | _, _ => none
theorem ok_mul : RuleOk Z (rI CMul fun i j => .int (i * j)) dMul := by
  intro I H x y z vx vy Q s rx ry h k
  unfold dMul at h
  split at h
  · split at h
    · rename_i hl; cases h; cases rx.int; cases ry.int; exact ⟨_, _, rfl, rfl, hl, k _ .int⟩
    · cases h
  · cases h
def dDiv : D → D → Option D
  | .int a, .int b => if CDiv a b then some (.int (a / b)) else none
  | _, _ => none
theorem ok_div : RuleOk Z (rI CDiv fun i j => .int (i / j)) dDiv := by
  intro I H x y z vx vy Q s rx ry h k
  unfold dDiv at h
  split at h
  · split at h
    · rename_i hl; cases h; cases rx.int; cases ry.int; exact ⟨_, _, rfl, rfl, hl, k _ .int⟩
    · cases h
  · cases h
def dMod : D → D → Option D
  | .int a, .int b => if 0 < b then some (.int (a % b)) else none
  | _, _ => none
theorem ok_mod : RuleOk Z (rI (fun _ j => 0 < j) fun i j => .int (i % j)) dMod := by
  intro I H x y z vx vy Q s rx ry h k
  unfold dMod at h
  split at h
  · split at h
    · rename_i hl; cases h; cases rx.int; cases ry.int; exact ⟨_, _, rfl, rfl, hl, k _ .int⟩
    · cases h
  · cases h
def dPow : D → D → Option D
  | .int a, .int b => if CPow a b then some (.int (a ^ b.toNat)) else none
  | _, _ => none
theorem ok_pow : RuleOk Z (rI CPow fun i j => .int (i ^ j.toNat)) dPow := by
  intro I H x y z vx vy Q s rx ry h k
  unfold dPow at h
  split at h
  · split at h
    · rename_i hl; cases h; cases rx.int; cases ry.int; exact ⟨_, _, rfl, rfl, hl, k _ .int⟩
    · cases h
  · cases h
/-- lists: a new list -/
def dCat : D → D → Option D
  | .lst a, .lst b => if a.length + b.length ≤ sizeLine then some (.lst (a ++ b)) else none
  | _, _ => none
theorem ok_cat : RuleNew Z rCat dCat := by
  intro I H x y z vx vy Q s rx ry h k
  unfold dCat at h
  split at h
  · split at h
    · rename_i hl
      cases h
      obtain ⟨a, vs, rfl, ha, ra⟩ := rx.lst s
      obtain ⟨b, us, rfl, hb, rb⟩ := ry.lst s
      exact ⟨a, b, vs, us, rfl, rfl, ha, hb, by rw [← ra.length, ← rb.length]; exact hl, fun p hp => k p _ hp (.lst (ra.append rb))⟩
    · cases h
  · cases h
theorem Reps.flat_replicate {K : PySem.W.Frag} {cl : String → Option Addr} {I : Hp} {xs : List D} {vs : List V} (r : Reps K cl I xs vs) : ∀ n, Reps K cl I (List.replicate n xs).flatten (List.replicate n vs).flatten
  | 0 => .nil
  | n + 1 => by
    rw [List.replicate_succ, List.replicate_succ, List.flatten_cons, List.flatten_cons]
    exact r.append (Reps.flat_replicate r n)
def dRep : D → D → Option D
  | .lst a, .int k => if -(2 ^ 63) ≤ k ∧ k < 2 ^ 63 ∧ a.length * k.toNat ≤ sizeLine then some (.lst (List.replicate k.toNat a).flatten) else none
  | _, _ => none
theorem ok_rep : RuleNew Z rRep dRep := by
  intro I H x y z vx vy Q s rx ry h k
  unfold dRep at h
  split at h
  · split at h
    · rename_i hl
      cases h
      obtain ⟨a, vs, rfl, ha, ra⟩ := rx.lst s
      cases ry.int
      obtain ⟨h1, h2, h3⟩ := hl
      exact ⟨a, _, vs, rfl, rfl, ha, h1, h2, by rw [← ra.length]; exact h3, fun p hp => k p _ hp (.lst (ra.flat_replicate _))⟩
    · cases h
  · cases h
/-- text * n -/
def mulStr : Str → Int → Option Str := fun x n => if 0 ≤ n ∧ n ≤ 1000 ∧ x.length ≤ 1000 then some (Txt.mul x n) else none
def dMulS : D → D → Option D
  | .str a, .int k => (mulStr a k).map D.str
  | _, _ => none
def rMulS : R2 := fun x y H Q => ∃ a k, x = .str a ∧ y = .int k ∧ (0 ≤ k ∧ k ≤ 1000 ∧ a.length ≤ 1000) ∧ Q (.str (Txt.mul a k)) H
theorem op_mulS {X : Cx} : OpR X (binaryOp .Mult) rMulS := by
  intro pins s σ H x y v u Q I rx ry h
  obtain ⟨a, k, rfl, rfl, ⟨h1, h2, h3⟩, q⟩ := h
  obtain ⟨t, rfl⟩ := rx
  obtain ⟨t', rfl⟩ := ry
  refine PySem.SB.mul ⟨?_, ?_, ?_⟩ fun t2 k2 => ⟨.str _, H, I.tok _, ⟨_, rfl⟩, q⟩
  · rw [Bool.or_eq_false_iff]
    exact ⟨decide_eq_false (by omega), decide_eq_false (by omega)⟩
  · intro h4 _ h5
    have : (a.length : Int) ≤ 1000 := by omega
    have h6 : (1000 : Int) ≤ (2 ^ 63 - 1) / k := by
      rw [Int.le_ediv_iff_mul_le (by omega)]
      have : 1000 * k ≤ 1000 * 1000 := by omega
      omega
    omega
  · intro h4 _
    unfold PySem.Builtin.Str.tooLong
    have h7 : a.length * k.toNat ≤ 1000 * 1000 := Nat.mul_le_mul h3 (by omega)
    have h8 : 1000000 ≤ sizeLine := by decide
    simp
    omega
theorem ok_mulS : RuleOk Z rMulS dMulS := by
  intro I H x y z vx vy Q s rx ry h k
  unfold dMulS at h
  split at h
  · unfold mulStr at h
    split at h
    · rename_i hl
      cases h
      cases rx.str; cases ry.int
      exact ⟨_, _, rfl, rfl, hl, k _ .str⟩
    · cases h
  · cases h
/-! ### comparisons -/
def dCmp (p : Int → Int → Bool) : D → D → Option D
  | .int a, .int b => some (.bl (p a b))
  | _, _ => none
theorem ok_cmp {p : Int → Int → Bool} : RuleOk Z (rI0 fun i j => .bl (p i j)) (dCmp p) := by
  intro I H x y z vx vy Q s rx ry h k
  unfold dCmp at h
  split at h
  · cases h; cases rx.int; cases ry.int; exact ⟨_, _, rfl, rfl, k _ .bl⟩
  · cases h
abbrev dLt := dCmp fun i j => decide (i < j)
abbrev dLe := dCmp fun i j => decide (i ≤ j)
abbrev dGt := dCmp fun i j => decide (j < i)
abbrev dGe := dCmp fun i j => decide (j ≤ i)
mutual
def toP : D → Option PyData
  | .non => some .none
  | .bl b => some (.bool b)
  | .int i => some (.int i)
  | .str s => some (.str s)
  | .lst xs => (toPs xs).map .list
  | .scr xs => (toPs xs).map .list
  | .tup xs => (toPs xs).map .tuple
  | _ => none
def toPs : List D → Option (List PyData)
  | [] => some []
  | x :: xs => (toP x).bind fun p => (toPs xs).map fun ps => p :: ps
end
mutual
theorem toP_ok {I H : Hp} (s : Same I H) : ∀ (d : D) (p : PyData) (v : V), toP d = some p → Rep Z.K Z.cl I d v → Dp Z.K H v p
  | .non, p, v, h, r => by unfold toP at h; cases h; cases r.non_inv; exact .non
  | .bl b, p, v, h, r => by unfold toP at h; cases h; cases r.bl_inv; exact .bl _
  | .int b, p, v, h, r => by unfold toP at h; cases h; cases r.int_inv; exact .int _
  | .str b, p, v, h, r => by unfold toP at h; cases h; cases r.str_inv; exact .str _
  | .lst xs, p, v, h, r => by
    unfold toP at h
    cases e : toPs xs with
    | none => rw [e] at h; cases h
    | some ps =>
      rw [e] at h; cases h
      obtain ⟨a, vs, rfl, ha, ra⟩ := r.lst_inv
      exact .lst (SqL.of (s _ _ ha)) (toPs_ok s xs ps vs e ra)
  | .scr xs, p, v, h, r => by
    unfold toP at h
    cases e : toPs xs with
    | none => rw [e] at h; cases h
    | some ps =>
      rw [e] at h; cases h
      obtain ⟨a, vs, rfl, ha, ra⟩ := r.scr_inv
      exact .lst (s.seq ha) (toPs_ok s xs ps vs e ra)
  | .tup xs, p, v, h, r => by
    unfold toP at h
    cases e : toPs xs with
    | none => rw [e] at h; cases h
    | some ps =>
      rw [e] at h; cases h
      obtain ⟨a, vs, rfl, ha, ra⟩ := r.tup_inv
      exact .tup (SqT.mono s ha) (toPs_ok s xs ps vs e ra)
  | .dic _ _, p, v, h, r => by unfold toP at h; cases h
  | .obj _ _ _, p, v, h, r => by unfold toP at h; cases h
  | .typ _, p, v, h, r => by unfold toP at h; cases h
  | .dcn _ _, p, v, h, r => by unfold toP at h; cases h
theorem toPs_ok {I H : Hp} (s : Same I H) : ∀ (ds : List D) (ps : List PyData) (vs : List V), toPs ds = some ps → Reps Z.K Z.cl I ds vs → DpAll Z.K H vs ps
  | [], ps, vs, h, r => by unfold toPs at h; cases h; cases r; exact .nil
  | d :: ds, ps, vs, h, r => by
    unfold toPs at h
    cases e : toP d with
    | none => rw [e] at h; cases h
    | some p =>
      rw [e] at h
      cases e2 : toPs ds with
      | none => rw [e2] at h; cases h
      | some qs =>
        rw [e2] at h
        cases h
        cases r with
        | cons r1 r2 => exact .cons (toP_ok s d p _ e r1) (toPs_ok s ds qs _ e2 r2)
end
theorem Rb.dp {I H : Hp} (s : Same I H) {d : D} {p : PyData} {v : V} (h : toP d = some p) (r : Rb Z I H d v) : Dp Z.K H v p := by
  rcases r with r | ⟨a, rfl, o, ha, r⟩
  · exact toP_ok s d p v h r
  · cases r with
    | lst ra =>
      unfold toP at h
      rename_i xs vs
      cases e : toPs xs with
      | none => rw [e] at h; cases h
      | some ps => rw [e] at h; cases h; exact .lst (SqL.of ha) (toPs_ok s _ _ _ e ra)
    | dic => unfold toP at h; cases h
    | obj => unfold toP at h; cases h
    | dcn => unfold toP at h; cases h
def dEqv (neg : Bool) : D → D → Option D
  | .str a, .str b => some (.bl (if neg then !decide (a = b) else decide (a = b)))
  | x, y => (toP x).bind fun d => (toP y).bind fun e => if (SeqAt.shaped d && SeqAt.shaped e) = true then some (.bl (if neg then !PyData.eqv d e else PyData.eqv d e)) else none
def rEqE (K : PySem.W.Frag) : R2 := fun x y H Q => rEq x y H Q ∨ rEqD K x y H Q
def rNeE (K : PySem.W.Frag) : R2 := fun x y H Q => rNe x y H Q ∨ rNeD K x y H Q
theorem or_eq {X : Cx} (h : InF Z X) : OpR X (compareOp .Eq) (rEqE Z.K) := by
  rw [← h.K]
  exact OpR.or op_eq (op_eqD h.room.units)
theorem or_ne {X : Cx} (h : InF Z X) : OpR X (compareOp .NotEq) (rNeE Z.K) := by
  rw [← h.K]
  exact OpR.or op_ne (op_neD h.room.units)
theorem dEqv_inv {neg : Bool} {x y z : D} (h : dEqv neg x y = some z) : (∃ a b, x = .str a ∧ y = .str b ∧ z = .bl (if neg then !decide (a = b) else decide (a = b))) ∨
    ∃ d e, toP x = some d ∧ toP y = some e ∧ SeqAt.shaped d = true ∧ SeqAt.shaped e = true ∧ z = .bl (if neg then !PyData.eqv d e else PyData.eqv d e) := by
  unfold dEqv at h
  split at h
  · cases h; exact .inl ⟨_, _, rfl, rfl, rfl⟩
  · refine .inr ?_
    cases e1 : toP x with
    | none => rw [e1] at h; cases h
    | some d =>
      rw [e1] at h
      cases e2 : toP y with
      | none => rw [e2] at h; cases h
      | some e =>
        rw [e2] at h
        simp only [Option.bind_some] at h
        split at h
        · rename_i hs
          cases h
          rw [Bool.and_eq_true] at hs
          exact ⟨d, e, rfl, rfl, hs.1, hs.2, rfl⟩
        · cases h
theorem ok_eq : RuleOk Z (rEqE Z.K) (dEqv false) := by
  intro I H x y z vx vy Q s rx ry h k
  rcases dEqv_inv h with ⟨a, b, rfl, rfl, rfl⟩ | ⟨d, e, h1, h2, h3, h4, rfl⟩
  · cases rx.str; cases ry.str
    refine .inl ⟨rfl, ?_⟩
    have e : decide (V.str a = V.str b) = decide (a = b) := by simp
    rw [e]
    exact k _ .bl
  · exact .inr ⟨d, e, rx.dp s h1, ry.dp s h2, h3, h4, k _ .bl⟩
theorem ok_ne : RuleOk Z (rNeE Z.K) (dEqv true) := by
  intro I H x y z vx vy Q s rx ry h k
  rcases dEqv_inv h with ⟨a, b, rfl, rfl, rfl⟩ | ⟨d, e, h1, h2, h3, h4, rfl⟩
  · cases rx.str; cases ry.str
    refine .inl ⟨rfl, ?_⟩
    have e : decide (V.str a = V.str b) = decide (a = b) := by simp
    rw [e]
    exact k _ .bl
  · exact .inr ⟨d, e, rx.dp s h1, ry.dp s h2, h3, h4, k _ .bl⟩
/-- is None, is not None -/
def D.isNon : D → Bool
  | .non => true
  | _ => false
def dIs (neg : Bool) : D → D → Option D
  | x, .non => some (.bl (if neg then !x.isNon else x.isNon))
  | _, _ => none
theorem Rb.isNon {I H : Hp} {d : D} {v : V} (r : Rb Z I H d v) : decide (v = .non) = d.isNon := by
  rcases r with r | ⟨a, rfl, o, ha, r⟩
  · cases r with
    | obj _ q => cases q <;> rfl
    | _ => rfl
  · cases r <;> rfl
theorem ok_is : RuleOk Z (fun x y H Q => y = .non ∧ Q (.bl (decide (x = .non))) H) (dIs false) := by
  intro I H x y z vx vy Q s rx ry h k
  unfold dIs at h
  split at h
  · cases h; cases ry.non
    rw [rx.isNon]
    exact ⟨rfl, k _ .bl⟩
  · cases h
theorem ok_isnot : RuleOk Z (fun x y H Q => y = .non ∧ Q (.bl (!decide (x = .non))) H) (dIs true) := by
  intro I H x y z vx vy Q s rx ry h k
  unfold dIs at h
  split at h
  · cases h; cases ry.non
    rw [rx.isNon]
    exact ⟨rfl, k _ .bl⟩
  · cases h
end
end Q
namespace Q
open PySem L2
section
variable {Z : Zc}
/-! ### in -/
def D.items? : D → Option (List D)
  | .lst xs => some xs
  | .scr xs => some xs
  | .tup xs => some xs
  | _ => none
def D.flat? : D → Option V
  | .non => some .non
  | .bl b => some (.bl b)
  | .int i => some (.int i)
  | .str s => some (.str s)
  | _ => none
def flats : List D → Option (List V)
  | [] => some []
  | d :: ds => d.flat?.bind fun v => (flats ds).map fun vs => v :: vs
theorem flat_rep {K : PySem.W.Frag} {cl : String → Option Addr} {I : Hp} {d : D} {v u : V} (h : d.flat? = some v) (r : Rep K cl I d u) : u = v ∧ flatV v = true := by
  cases d <;> simp only [D.flat?] at h <;> first | (cases h; first | exact ⟨r.non_inv, rfl⟩ | exact ⟨r.bl_inv, rfl⟩ | exact ⟨r.int_inv, rfl⟩ | exact ⟨r.str_inv, rfl⟩) | cases h
theorem flats_rep {K : PySem.W.Frag} {cl : String → Option Addr} {I : Hp} : ∀ {ds : List D} {vs us : List V}, flats ds = some vs → Reps K cl I ds us → us = vs ∧ vs.all flatV = true
  | [], vs, us, h, r => by cases h; cases r; exact ⟨rfl, rfl⟩
  | d :: ds, vs, us, h, r => by
    unfold flats at h
    cases e : d.flat? with
    | none => rw [e] at h; cases h
    | some v =>
      rw [e] at h
      cases e2 : flats ds with
      | none => rw [e2] at h; cases h
      | some ws =>
        rw [e2] at h
        cases h
        cases r with
        | cons r1 r2 =>
          obtain ⟨rfl, h1⟩ := flat_rep e r1
          obtain ⟨rfl, h2⟩ := flats_rep e2 r2
          exact ⟨rfl, by rw [List.all_cons, h1, h2]; rfl⟩
theorem Rb.flat {I H : Hp} {d : D} {v u : V} (h : d.flat? = some v) (r : Rb Z I H d u) : u = v ∧ flatV v = true := by
  rcases r with r | ⟨a, rfl, o, _, r⟩
  · exact flat_rep h r
  · cases r <;> cases h
def Str.sign? (s : Str) : Option Nat := match s.cps.toList with
  | [c] => some c
  | _ => none
def dIn (neg : Bool) (x y : D) : Option D := match y with
  | .str z => match x with
    | .str s => some (.bl (match Str.sign? s with
      | some c => if neg then !decide (c ∈ z.cps.toList) else decide (c ∈ z.cps.toList)
      | none => if neg then !(!(Builtin.Str.occurrences z s 0 z.length 1).isEmpty) else !(Builtin.Str.occurrences z s 0 z.length 1).isEmpty))
    | _ => none
  | _ => y.items?.bind fun ds => (flats ds).bind fun vs => x.flat?.map fun v => .bl (if neg then !inV v vs else inV v vs)
def rInE (K : PySem.W.Frag) : R2 := fun x y H Q => (∃ (c : Nat) (z : Str), x = .str ⟨#[c]⟩ ∧ y = .str z ∧ Q (.bl (decide (c ∈ z.cps.toList))) H) ∨ (∃ i j, x = .str i ∧ y = .str j ∧ Q (.bl (!(Builtin.Str.occurrences j i 0 j.length 1).isEmpty)) H) ∨ rIn K false x y H Q
def rNinE (K : PySem.W.Frag) : R2 := fun x y H Q => (∃ (c : Nat) (z : Str), x = .str ⟨#[c]⟩ ∧ y = .str z ∧ Q (.bl (!decide (c ∈ z.cps.toList))) H) ∨ (∃ i j, x = .str i ∧ y = .str j ∧ Q (.bl (!(!(Builtin.Str.occurrences j i 0 j.length 1).isEmpty))) H) ∨ rIn K true x y H Q
theorem or_in {X : Cx} (h : InF Z X) : OpR X (compareOp .In) (rInE Z.K) := by
  rw [← h.K]
  exact OpR.or op_in_sign (OpR.or op_in_str op_in_seq)
theorem or_nin {X : Cx} (h : InF Z X) : OpR X (compareOp .NotIn) (rNinE Z.K) := by
  rw [← h.K]
  exact OpR.or op_notIn_sign (OpR.or op_notin_str op_notIn_seq)
theorem sign_str {s : Str} {c : Nat} (h : Str.sign? s = some c) : s = ⟨#[c]⟩ := by
  unfold Str.sign? at h
  obtain ⟨a⟩ := s
  split at h
  · rename_i d e
    cases h
    have : a = #[c] := by
      have q := congrArg List.toArray e
      simpa using q
    rw [this]
  · cases h
theorem dIn_inv {neg : Bool} {x y z : D} (h : dIn neg x y = some z) :
    (∃ s t, x = .str s ∧ y = .str t ∧ z = .bl (match Str.sign? s with
      | some c => if neg then !decide (c ∈ t.cps.toList) else decide (c ∈ t.cps.toList)
      | none => if neg then !(!(Builtin.Str.occurrences t s 0 t.length 1).isEmpty) else !(Builtin.Str.occurrences t s 0 t.length 1).isEmpty)) ∨
    ∃ ds vs v, y.items? = some ds ∧ flats ds = some vs ∧ x.flat? = some v ∧ z = .bl (if neg then !inV v vs else inV v vs) := by
  unfold dIn at h
  split at h
  · split at h
    · cases h; exact .inl ⟨_, _, rfl, rfl, rfl⟩
    · cases h
  · refine .inr ?_
    cases e1 : y.items? with
    | none => rw [e1] at h; cases h
    | some ds =>
      rw [e1] at h
      simp only [Option.bind_some] at h
      cases e2 : flats ds with
      | none => rw [e2] at h; cases h
      | some vs =>
        rw [e2] at h
        simp only [Option.bind_some] at h
        cases e3 : x.flat? with
        | none => rw [e3] at h; cases h
        | some v => rw [e3] at h; cases h; exact ⟨_, _, _, rfl, e2, rfl, rfl⟩
theorem Rb.items {I H : Hp} (s : Same I H) {d : D} {xs : List D} {v : V} (h : d.items? = some xs) (r : Rb Z I H d v) : ∃ a vs, v = .ref a ∧ (SqL Z.K H a vs ∨ SqT Z.K H a vs) ∧ Reps Z.K Z.cl I xs vs := by
  unfold D.items? at h
  split at h
  · cases h; obtain ⟨a, vs, e, h1, h2⟩ := r.lst s; exact ⟨a, vs, e, .inl (SqL.of h1), h2⟩
  · cases h; obtain ⟨a, vs, e, h1, h2⟩ := r.scr s; exact ⟨a, vs, e, .inl h1, h2⟩
  · cases h; obtain ⟨a, vs, e, h1, h2⟩ := r.tup s; exact ⟨a, vs, e, .inr h1, h2⟩
  · cases h
theorem ok_in : RuleOk Z (rInE Z.K) (dIn false) := by
  intro I H x y z vx vy Q s rx ry h k
  rcases dIn_inv h with ⟨a, b, rfl, rfl, rfl⟩ | ⟨ds, vs, v, h1, h2, h3, rfl⟩
  · cases rx.str; cases ry.str
    cases e : Str.sign? a with
    | some c =>
      rw [e] at k
      cases sign_str e
      exact .inl ⟨c, b, rfl, rfl, k _ .bl⟩
    | none => rw [e] at k; exact .inr (.inl ⟨a, b, rfl, rfl, k _ .bl⟩)
  · obtain ⟨p, us, rfl, h4, h5⟩ := ry.items s h1
    obtain ⟨rfl, h6⟩ := flats_rep h2 h5
    obtain ⟨rfl, h7⟩ := rx.flat h3
    exact .inr (.inr ⟨p, us, rfl, h4, h7, h6, k _ .bl⟩)
theorem ok_nin : RuleOk Z (rNinE Z.K) (dIn true) := by
  intro I H x y z vx vy Q s rx ry h k
  rcases dIn_inv h with ⟨a, b, rfl, rfl, rfl⟩ | ⟨ds, vs, v, h1, h2, h3, rfl⟩
  · cases rx.str; cases ry.str
    cases e : Str.sign? a with
    | some c =>
      rw [e] at k
      cases sign_str e
      exact .inl ⟨c, b, rfl, rfl, k _ .bl⟩
    | none => rw [e] at k; exact .inr (.inl ⟨a, b, rfl, rfl, k _ .bl⟩)
  · obtain ⟨p, us, rfl, h4, h5⟩ := ry.items s h1
    obtain ⟨rfl, h6⟩ := flats_rep h2 h5
    obtain ⟨rfl, h7⟩ := rx.flat h3
    exact .inr (.inr ⟨p, us, rfl, h4, h7, h6, k _ .bl⟩)
/-! ### k in d, d[k] -/
def D.key? : D → Option Key
  | .int i => some (.inl i)
  | .str s => some (.inr s)
  | _ => none
def lookD (ks : List Key) (xs : List D) (k : Key) : Option D := ((ks.zip xs).find? fun p => decide (p.1 = k)).map (·.2)
theorem look_rep {K : PySem.W.Frag} {cl : String → Option Addr} {I : Hp} {k : Key} : ∀ {ks : List Key} {xs : List D} {vs : List V}, Reps K cl I xs vs →
    (lookD ks xs k = none ∧ valV (ks.zip vs) k = none) ∨ ∃ d v, lookD ks xs k = some d ∧ valV (ks.zip vs) k = some v ∧ Rep K cl I d v
  | [], xs, vs, r => .inl ⟨rfl, rfl⟩
  | q :: ks, [], [], .nil => .inl ⟨rfl, rfl⟩
  | q :: ks, d :: ds, v :: vs, .cons r1 r2 => by
    by_cases e : q = k
    · refine .inr ⟨d, v, ?_, ?_, r1⟩
      · simp [lookD, List.find?_cons, e]
      · rw [List.zip_cons_cons]; exact valV_pos e
    · have h1 : lookD (q :: ks) (d :: ds) k = lookD ks ds k := by simp [lookD, List.find?_cons, e]
      rw [h1, List.zip_cons_cons, valV_neg (p := (q, v)) e]
      exact look_rep r2
def dInD (neg : Bool) (x y : D) : Option D := match y with
  | .dic ks xs => x.key?.map fun k => .bl (if neg then !(lookD ks xs k).isSome else (lookD ks xs k).isSome)
  | _ => none
theorem key_rep {I H : Hp} {d : D} {k : Key} {v : V} (h : d.key? = some k) (r : Rb Z I H d v) : v = kV k := by
  cases d <;> simp only [D.key?] at h <;> first | (cases h; first | exact r.int | exact r.str) | cases h
def rDIn (neg : Bool) : R2 := fun y x H Q => ∃ a o, x = .ref a ∧ DGet H a y o ∧ Q (.bl (if neg then !o.isSome else o.isSome)) H
theorem ok_inD {neg : Bool} : RuleOk Z (rDIn neg) (dInD neg) := by
  intro I H x y z vx vy Q s rx ry h k
  unfold dInD at h
  split at h
  · rename_i ks xs
    cases e : x.key? with
    | none => rw [e] at h; cases h
    | some q =>
      rw [e] at h
      cases h
      obtain ⟨a, vs, rfl, h1, h2, h3⟩ := ry.dic s
      have hk := key_rep e rx
      subst hk
      have hs : (valV (ks.zip vs) q).isSome = (lookD ks xs q).isSome := by
        rcases look_rep (k := q) (ks := ks) h2 with ⟨e1, e2⟩ | ⟨d, v, e1, e2, _⟩ <;> rw [e1, e2] <;> rfl
      refine ⟨a, _, rfl, .inl ⟨_, q, h1, rfl, rfl⟩, ?_⟩
      rw [hs]
      exact k _ .bl
  · cases h
theorem huOf {X : Cx} (h : InF Z X) : X.A.units + 1 < cLine := hu_of h.room
theorem ev_inD {a b : Expr} {ma mb : ML} {pos : Pos} (ha : LV Z a ma) (hb : LV Z b mb) (hm : behindInMarks .In b = false := by rfl) : EV Z (.Compare a [.In] [b] pos) (mBin (dInD false) ma mb) := by
  obtain ⟨ta, a1, a2⟩ := ha
  obtain ⟨tb, b1, b2⟩ := hb
  exact ⟨tOp (rDIn false) ta tb, fun X h => pe_cmp (pc_din (huOf h) (a1 X h) (b1 X h)) hm, bin_se ok_inD a2 b2⟩
theorem ev_ninD {a b : Expr} {ma mb : ML} {pos : Pos} (ha : LV Z a ma) (hb : LV Z b mb) (hm : behindInMarks .NotIn b = false := by rfl) : EV Z (.Compare a [.NotIn] [b] pos) (mBin (dInD true) ma mb) := by
  obtain ⟨ta, a1, a2⟩ := ha
  obtain ⟨tb, b1, b2⟩ := hb
  exact ⟨tOp (rDIn true) ta tb, fun X h => pe_cmp (pc_dnotin (huOf h) (a1 X h) (b1 X h)) hm, bin_se ok_inD a2 b2⟩
theorem tv_inD {a b : Expr} {ma mb : ML} {pos : Pos} (ha : LV Z a ma) (hb : LV Z b mb) (hm : behindInMarks .In b = false := by rfl) : TV Z (.Compare a [.In] [b] pos) (mTest (mBin (dInD false) ma mb)) := by
  obtain ⟨ta, a1, a2⟩ := ha
  obtain ⟨tb, b1, b2⟩ := hb
  refine ⟨tB (tOp (rDIn false) ta tb), fun X h => pt_cmp (pc_din (huOf h) (a1 X h) (b1 X h)) hm, fun g env σ I H Q c env' R hm k => ?_⟩
  refine bin_se ok_inD a2 b2 g env σ I H _ _ env' R (mTest_inv hm) fun v I' H' R' s rv => ⟨c, rv.bl_inv, k I' H' R' s⟩
theorem tv_ninD {a b : Expr} {ma mb : ML} {pos : Pos} (ha : LV Z a ma) (hb : LV Z b mb) (hm : behindInMarks .NotIn b = false := by rfl) : TV Z (.Compare a [.NotIn] [b] pos) (mTest (mBin (dInD true) ma mb)) := by
  obtain ⟨ta, a1, a2⟩ := ha
  obtain ⟨tb, b1, b2⟩ := hb
  refine ⟨tB (tOp (rDIn true) ta tb), fun X h => pt_cmp (pc_dnotin (huOf h) (a1 X h) (b1 X h)) hm, fun g env σ I H Q c env' R hm k => ?_⟩
  refine bin_se ok_inD a2 b2 g env σ I H _ _ env' R (mTest_inv hm) fun v I' H' R' s rv => ⟨c, rv.bl_inv, k I' H' R' s⟩
/-! ### x[i] -/
def dIx : D → D → Option D
  | .lst xs, .int i => atI xs i
  | .scr xs, .int i => atI xs i
  | .tup xs, .int i => atI xs i
  | .str z, .int i => if z.length ≤ sizeLine then (atI z.cps.toList i).map fun c => .str ⟨#[c]⟩ else none
  | _, _ => none
theorem atI_rep {K : PySem.W.Frag} {cl : String → Option Addr} {I : Hp} {xs : List D} {vs : List V} {i : Int} {d : D} (r : Reps K cl I xs vs) (h : atI xs i = some d) : ∃ v, atI vs i = some v ∧ Rep K cl I d v := by
  unfold atI at h ⊢
  rw [← r.length]
  cases e : ixN xs.length i with
  | none => rw [e] at h; cases h
  | some j =>
    rw [e] at h
    exact r.get (show xs[j]? = some d from h)
theorem ok_ix : RuleOk Z (rIx Z.K) dIx := by
  intro I H x y z vx vy Q s rx ry h k
  unfold dIx at h
  split at h
  · obtain ⟨a, vs, rfl, h1, h2⟩ := rx.lst s
    cases ry.int
    obtain ⟨v, h3, h4⟩ := atI_rep h2 h
    exact .inl ⟨a, vs, _, v, rfl, rfl, SqL.of h1, h3, k _ h4⟩
  · obtain ⟨a, vs, rfl, h1, h2⟩ := rx.scr s
    cases ry.int
    obtain ⟨v, h3, h4⟩ := atI_rep h2 h
    exact .inl ⟨a, vs, _, v, rfl, rfl, h1, h3, k _ h4⟩
  · obtain ⟨a, vs, rfl, h1, h2⟩ := rx.tup s
    cases ry.int
    obtain ⟨v, h3, h4⟩ := atI_rep h2 h
    exact .inr (.inl ⟨a, vs, _, v, rfl, rfl, h1, h3, k _ h4⟩)
  · rename_i zz i
    split at h
    · rename_i hl
      cases rx.str; cases ry.int
      cases e : atI zz.cps.toList i with
      | none => rw [e] at h; cases h
      | some c => rw [e] at h; cases h; exact .inr (.inr ⟨_, _, c, rfl, rfl, hl, e, k _ .str⟩)
    · cases h
  · cases h
theorem or_ix {X : Cx} (h : InF Z X) : IxR X (rIx Z.K) := by
  rw [← h.K]
  exact ix_seq
theorem ev_ix {a b : Expr} {ma mb : ML} {pos : Pos} (ha : LV Z a ma) (hb : LV Z b mb) (hs : PlainIx b := by exact fun _ _ => rfl) : EV Z (.Subscript a b pos) (mBin dIx ma mb) := by
  obtain ⟨ta, a1, a2⟩ := ha
  obtain ⟨tb, b1, b2⟩ := hb
  exact ⟨_, fun X h => pe_ix (or_ix h) (a1 X h) (b1 X h) hs, bin_se ok_ix a2 b2⟩
/-- d[k] -/
def dGet : D → D → Option D
  | .dic ks xs, k => k.key?.bind fun q => lookD ks xs q
  | _, _ => none
def rDGet : R2 := fun x y H Q => ∃ a v, x = .ref a ∧ DGet H a y (some v) ∧ Q v H
theorem ok_get : RuleOk Z rDGet dGet := by
  intro I H x y z vx vy Q s rx ry h k
  unfold dGet at h
  split at h
  · rename_i ks xs
    cases e : y.key? with
    | none => rw [e] at h; cases h
    | some q =>
      rw [e] at h
      obtain ⟨a, vs, rfl, h1, h2, h3⟩ := rx.dic s
      have hk := key_rep e ry
      subst hk
      rcases look_rep (k := q) (ks := ks) h2 with ⟨e1, e2⟩ | ⟨d, v, e1, e2, r⟩
      · change lookD ks xs q = some z at h
        rw [e1] at h; cases h
      · change lookD ks xs q = some z at h
        rw [e1] at h; cases h
        exact ⟨a, v, rfl, .inl ⟨_, q, h1, rfl, e2.symm⟩, k _ r⟩
  · cases h
theorem ev_dget {a b : Expr} {ma mb : ML} {pos : Pos} (ha : LV Z a ma) (hb : LV Z b mb) (hs : NoSl b := by exact fun _ _ => rfl) : EV Z (.Subscript a b pos) (mBin dGet ma mb) := by
  obtain ⟨ta, a1, a2⟩ := ha
  obtain ⟨tb, b1, b2⟩ := hb
  exact ⟨tOp rDGet ta tb, fun X h => pe_dget (huOf h) (a1 X h) (b1 X h) hs, bin_se ok_get a2 b2⟩
end
end Q
namespace Q
open PySem L2
section
variable {Z : Zc}
/-! ### and, or, not, if .. else -/
def mAnd (a b : MT) : MT := fun env => (a env).bind fun p => if p.1 then b p.2 else some (false, p.2)
def mOr (a b : MT) : MT := fun env => (a env).bind fun p => if p.1 then some (true, p.2) else b p.2
def mNot (a : MT) : MT := fun env => (a env).map fun p => (!p.1, p.2)
def WV (Z : Zc) (e : Expr) (m : MT) : Prop := ∃ t, (∀ X, InF Z X → PW X e t) ∧ ST Z t m
theorem WV.tv {e : Expr} {m : MT} (h : WV Z e m) : TV Z e m := let ⟨t, h1, h2⟩ := h; ⟨t, fun X i => (h1 X i).pt, h2⟩
theorem wv_and1 {a : Expr} {m : MT} {pos : Pos} (h : TV Z a m) : WV Z (.BoolOp .And [a] pos) m := let ⟨t, h1, h2⟩ := h; ⟨t, fun X i => pw_and1 (h1 X i), h2⟩
theorem wv_or1 {a : Expr} {m : MT} {pos : Pos} (h : TV Z a m) : WV Z (.BoolOp .Or [a] pos) m := let ⟨t, h1, h2⟩ := h; ⟨t, fun X i => pw_or1 (h1 X i), h2⟩
theorem st_and {ta tb : TT} {ma mb : MT} (ha : ST Z ta ma) (hb : ST Z tb mb) : ST Z (tAnd ta tb) (mAnd ma mb) := by
  intro g env σ I H Q c env' R hm k
  unfold mAnd at hm
  cases e : ma env with
  | none => rw [e] at hm; cases hm
  | some p =>
    obtain ⟨b, e1⟩ := p
    rw [e] at hm
    simp only [Option.bind_some] at hm
    refine ha g env σ I H _ b e1 R e fun I1 H1 R1 s1 => ?_
    cases b with
    | true => exact hb g e1 σ I1 H1 Q c env' R1 hm fun I2 H2 R2 s2 => k I2 H2 R2 (s1.trans s2)
    | false => cases hm; exact k I1 H1 R1 s1
theorem st_or {ta tb : TT} {ma mb : MT} (ha : ST Z ta ma) (hb : ST Z tb mb) : ST Z (tOr ta tb) (mOr ma mb) := by
  intro g env σ I H Q c env' R hm k
  unfold mOr at hm
  cases e : ma env with
  | none => rw [e] at hm; cases hm
  | some p =>
    obtain ⟨b, e1⟩ := p
    rw [e] at hm
    simp only [Option.bind_some] at hm
    refine ha g env σ I H _ b e1 R e fun I1 H1 R1 s1 => ?_
    cases b with
    | false => exact hb g e1 σ I1 H1 Q c env' R1 hm fun I2 H2 R2 s2 => k I2 H2 R2 (s1.trans s2)
    | true => cases hm; exact k I1 H1 R1 s1
theorem wv_and {a b : Expr} {r : List Expr} {ma mb : MT} {pos : Pos} (ha : TV Z a ma) (hb : WV Z (.BoolOp .And (b :: r) pos) mb) : WV Z (.BoolOp .And (a :: b :: r) pos) (mAnd ma mb) := by
  obtain ⟨ta, a1, a2⟩ := ha
  obtain ⟨tb, b1, b2⟩ := hb
  exact ⟨_, fun X h => pw_and (a1 X h) (b1 X h), st_and a2 b2⟩
theorem wv_or {a b : Expr} {r : List Expr} {ma mb : MT} {pos : Pos} (ha : TV Z a ma) (hb : WV Z (.BoolOp .Or (b :: r) pos) mb) : WV Z (.BoolOp .Or (a :: b :: r) pos) (mOr ma mb) := by
  obtain ⟨ta, a1, a2⟩ := ha
  obtain ⟨tb, b1, b2⟩ := hb
  exact ⟨_, fun X h => pw_or (a1 X h) (b1 X h), st_or a2 b2⟩
theorem tv_not {a : Expr} {ma : MT} {pos : Pos} (ha : TV Z a ma) : TV Z (.UnaryOp .Not a pos) (mNot ma) := by
  obtain ⟨ta, a1, a2⟩ := ha
  refine ⟨_, fun X h => pt_not (a1 X h), fun g env σ I H Q c env' R hm k => ?_⟩
  unfold mNot at hm
  cases e : ma env with
  | none => rw [e] at hm; cases hm
  | some p =>
    rw [e] at hm; cases hm
    exact a2 g env σ I H _ p.1 p.2 R e fun I1 H1 R1 s1 => k I1 H1 R1 s1
/-- .. as values: all are True or False -/
def mAndV (a b : ME) : ME := fun env => (mTest a env).bind fun p => if p.1 then b p.2 else some (.bl false, p.2)
def mOrV (a b : ME) : ME := fun env => (mTest a env).bind fun p => if p.1 then some (.bl true, p.2) else b p.2
def mNotV (a : ME) : ME := fun env => (mTest a env).map fun p => (.bl (!p.1), p.2)
theorem ev_one {a : Expr} {op} {m : ME} {pos : Pos} (h : EV Z a m) : EV Z (.BoolOp op [a] pos) m := let ⟨t, h1, h2⟩ := h; ⟨t, fun X i => pe_one (h1 X i), h2⟩
theorem ev_and {a b : Expr} {r : List Expr} {ma mb : ME} {pos : Pos} (ha : EV Z a ma) (hb : EV Z (.BoolOp .And (b :: r) pos) mb) : EV Z (.BoolOp .And (a :: b :: r) pos) (mAndV ma mb) := by
  obtain ⟨ta, a1, a2⟩ := ha
  obtain ⟨tb, b1, b2⟩ := hb
  refine ⟨_, fun X h => pe_and (a1 X h) (b1 X h), fun g env σ I H Q c env' R hm k => ?_⟩
  unfold mAndV at hm
  cases e : mTest ma env with
  | none => rw [e] at hm; cases hm
  | some p =>
    obtain ⟨b, e1⟩ := p
    rw [e] at hm
    simp only [Option.bind_some] at hm
    refine a2 g env σ I H _ _ e1 R (mTest_inv e) fun v I1 H1 R1 s1 r1 => ⟨b, r1.bl_inv, ?_⟩
    cases b with
    | true => exact b2 g e1 σ I1 H1 Q c env' R1 hm fun v I2 H2 R2 s2 => k v I2 H2 R2 (s1.trans s2)
    | false => cases hm; exact k _ I1 H1 R1 s1 .bl
theorem ev_or {a b : Expr} {r : List Expr} {ma mb : ME} {pos : Pos} (ha : EV Z a ma) (hb : EV Z (.BoolOp .Or (b :: r) pos) mb) : EV Z (.BoolOp .Or (a :: b :: r) pos) (mOrV ma mb) := by
  obtain ⟨ta, a1, a2⟩ := ha
  obtain ⟨tb, b1, b2⟩ := hb
  refine ⟨_, fun X h => pe_or (a1 X h) (b1 X h), fun g env σ I H Q c env' R hm k => ?_⟩
  unfold mOrV at hm
  cases e : mTest ma env with
  | none => rw [e] at hm; cases hm
  | some p =>
    obtain ⟨b, e1⟩ := p
    rw [e] at hm
    simp only [Option.bind_some] at hm
    refine a2 g env σ I H _ _ e1 R (mTest_inv e) fun v I1 H1 R1 s1 r1 => ⟨b, r1.bl_inv, ?_⟩
    cases b with
    | false => exact b2 g e1 σ I1 H1 Q c env' R1 hm fun v I2 H2 R2 s2 => k v I2 H2 R2 (s1.trans s2)
    | true => cases hm; exact k _ I1 H1 R1 s1 .bl
theorem ev_not {a : Expr} {ma : ME} {pos : Pos} (ha : EV Z a ma) : EV Z (.UnaryOp .Not a pos) (mNotV ma) := by
  obtain ⟨ta, a1, a2⟩ := ha
  refine ⟨_, fun X h => pe_not (a1 X h), fun g env σ I H Q c env' R hm k => ?_⟩
  unfold mNotV at hm
  cases e : mTest ma env with
  | none => rw [e] at hm; cases hm
  | some p =>
    obtain ⟨b, e1⟩ := p
    rw [e] at hm; cases hm
    exact a2 g env σ I H _ _ e1 R (mTest_inv e) fun v I1 H1 R1 s1 r1 => ⟨b, r1.bl_inv, k _ I1 H1 R1 s1 .bl⟩
def mIf (c : MT) (a b : ME) : ME := fun env => (c env).bind fun p => if p.1 then a p.2 else b p.2
theorem ev_if {c a b : Expr} {mc : MT} {ma mb : ME} {pos : Pos} (hc : TV Z c mc) (ha : EV Z a ma) (hb : EV Z b mb) : EV Z (.IfExp c a b pos) (mIf mc ma mb) := by
  obtain ⟨tc, c1, c2⟩ := hc
  obtain ⟨ta, a1, a2⟩ := ha
  obtain ⟨tb, b1, b2⟩ := hb
  refine ⟨_, fun X h => pe_ifExp (c1 X h) (a1 X h) (b1 X h), fun g env σ I H Q d env' R hm k => ?_⟩
  unfold mIf at hm
  cases e : mc env with
  | none => rw [e] at hm; cases hm
  | some p =>
    obtain ⟨b, e1⟩ := p
    rw [e] at hm
    simp only [Option.bind_some] at hm
    refine c2 g env σ I H _ b e1 R e fun I1 H1 R1 s1 => ?_
    cases b with
    | true => exact a2 g e1 σ I1 H1 Q d env' R1 hm fun v I2 H2 R2 s2 => k v I2 H2 R2 (s1.trans s2)
    | false => exact b2 g e1 σ I1 H1 Q d env' R1 hm fun v I2 H2 R2 s2 => k v I2 H2 R2 (s1.trans s2)
/-- a test whose value is True or False (no comparison, no and, or, not) -/
theorem tv_val {e : Expr} {m : ME} (h : EV Z e m) (he : ∀ (env : Env) whole, isTrue e env whole = (do let v ← whole; standAt e.pos; holding [v] (truthy v)) := by intro _ _; rfl) : TV Z e (mTest m) := by
  obtain ⟨t, h1, h2⟩ := h
  refine ⟨_, fun X i => pt_val (h1 X i) (he _), fun g env σ I H Q c env' R hm k => ?_⟩
  exact h2 g env σ I H _ _ env' R (mTest_inv hm) fun v I' H' R' s rv => ⟨c, rv.bl_inv, k I' H' R' s⟩
/-- the truth of what may be read -/
def dTru : D → Option Bool
  | .non => some false
  | .bl b => some b
  | .int i => some (i != 0)
  | .str y => if y.length ≤ sizeLine then some ((y.length : Int) != 0) else none
  | .lst xs => some (!xs.isEmpty)
  | .scr xs => some (!xs.isEmpty)
  | .tup xs => some (!xs.isEmpty)
  | _ => none
theorem Reps.emp {K : PySem.W.Frag} {cl : String → Option Addr} {I : Hp} {xs : List D} {vs : List V} (r : Reps K cl I xs vs) : xs.isEmpty = vs.isEmpty := by
  cases r <;> rfl
theorem tru_rb {I H : Hp} (s : Same I H) {d : D} {b : Bool} {v : V} (h : dTru d = some b) (r : Rb Z I H d v) : TruV Z.K v H b := by
  cases d with
  | non => cases h; cases r.non; rfl
  | bl => cases h; cases r.bl; rfl
  | int => cases h; cases r.int; rfl
  | str y =>
    simp only [dTru] at h
    split at h
    · rename_i hl; cases h; cases r.str; exact ⟨hl, rfl⟩
    · cases h
  | lst xs => cases h; obtain ⟨a, vs, rfl, h1, h2⟩ := r.lst s; exact .inl ⟨vs, SqL.of h1, by rw [h2.emp]⟩
  | scr xs => cases h; obtain ⟨a, vs, rfl, h1, h2⟩ := r.scr s; exact .inl ⟨vs, h1, by rw [h2.emp]⟩
  | tup xs => cases h; obtain ⟨a, vs, rfl, h1, h2⟩ := r.tup s; exact .inr (.inl ⟨vs, h1, by rw [h2.emp]⟩)
  | dic => cases h
  | obj => cases h
  | dcn => cases h
  | typ => cases h
def mTru (m : ML) : MT := fun env => (m env).bind fun p => (p.1.get p.2).bind fun d => (dTru d).map fun b => (b, p.2)
theorem tv_tru {e : Expr} {m : ML} (h : LV Z e m) (he : ∀ (env : Env) whole, isTrue e env whole = (do let v ← whole; standAt e.pos; holding [v] (truthy v)) := by intro _ _; rfl) : TV Z e (mTru m) := by
  obtain ⟨t, h1, h2⟩ := h
  refine ⟨fun σ H Q => t σ H fun x H1 => ∃ k, TruV Z.K x H1 k ∧ Q k H1, fun X i => ?_, fun g env σ I H Q c env' R hm k => ?_⟩
  · have q := pt_truth (X := X) (h1 X i) (he _)
    rw [i.K] at q
    exact q
  · unfold mTru at hm
    cases e1 : m env with
    | none => rw [e1] at hm; cases hm
    | some p =>
      obtain ⟨l, en⟩ := p
      rw [e1] at hm
      simp only [Option.bind_some] at hm
      cases e2 : l.get en with
      | none => rw [e2] at hm; cases hm
      | some d =>
        rw [e2] at hm
        simp only [Option.bind_some] at hm
        cases e3 : dTru d with
        | none => rw [e3] at hm; cases hm
        | some b =>
          rw [e3] at hm
          cases hm
          exact h2 g env σ I H _ l env' R e1 fun v I' H' R' s o => ⟨_, tru_rb R'.sub e3 (Ls.rb R' o e2), k I' H' R' s⟩
/-! ### a < b < c -/
def mChain (f f' : D → D → Option D) (a b c : ML) : ME := fun env => (a env).bind fun p => (b p.2).bind fun q => (p.1.get q.2).bind fun x => (q.1.get q.2).bind fun y => (f x y).bind fun z => match z with
  | .bl true => (c q.2).bind fun r => (q.1.get r.2).bind fun y => (r.1.get r.2).bind fun w => (f' y w).map fun z => (z, r.2)
  | .bl false => some (.bl false, q.2)
  | _ => none
theorem chain_se {r r' : R2} {f f' : D → D → Option D} {ta tb tc : TE} {ma mb mc : ML} (hr : RuleOk Z r f) (hr' : RuleOk Z r' f') (ha : SL Z ta ma) (hb : SL Z tb mb) (hc : SL Z tc mc) : SE Z (tChain r r' ta tb tc) (mChain f f' ma mb mc) := by
  intro g env σ I H Q d env' R hm k
  unfold mChain at hm
  cases h1 : ma env with
  | none => rw [h1] at hm; cases hm
  | some p =>
    obtain ⟨la, e1⟩ := p
    rw [h1] at hm; simp only [Option.bind_some] at hm
    cases h2 : mb e1 with
    | none => rw [h2] at hm; cases hm
    | some p =>
      obtain ⟨lb, e2⟩ := p
      rw [h2] at hm; simp only [Option.bind_some] at hm
      cases h3 : la.get e2 with
      | none => rw [h3] at hm; cases hm
      | some x =>
        rw [h3] at hm; simp only [Option.bind_some] at hm
        cases h4 : lb.get e2 with
        | none => rw [h4] at hm; cases hm
        | some y =>
          rw [h4] at hm; simp only [Option.bind_some] at hm
          cases h5 : f x y with
          | none => rw [h5] at hm; cases hm
          | some z =>
            rw [h5] at hm; simp only [Option.bind_some] at hm
            refine ha g env σ I H _ la e1 R h1 fun vx I1 H1 R1 s1 o1 => ?_
            refine hb g e1 σ I1 H1 _ lb e2 R1 h2 fun vy I2 H2 R2 s2 o2 => ?_
            refine hr I2 H2 x y z vx vy _ R2.sub (Ls.rb R2 (o1.mono s2) h3) (Ls.rb R2 o2 h4) h5 fun vz rz => ?_
            split at hm
            · refine ⟨true, rz.bl_inv, ?_⟩
              show tc σ H2 _
              cases h6 : mc e2 with
              | none => rw [h6] at hm; cases hm
              | some p =>
                obtain ⟨lc, e3⟩ := p
                rw [h6] at hm; simp only [Option.bind_some] at hm
                cases h7 : lb.get e3 with
                | none => rw [h7] at hm; cases hm
                | some y' =>
                  rw [h7] at hm; simp only [Option.bind_some] at hm
                  cases h8 : lc.get e3 with
                  | none => rw [h8] at hm; cases hm
                  | some w =>
                    rw [h8] at hm; simp only [Option.bind_some] at hm
                    cases h9 : f' y' w with
                    | none => rw [h9] at hm; cases hm
                    | some u =>
                      rw [h9] at hm; cases hm
                      refine hc g e2 σ I2 H2 _ lc env' R2 h6 fun vw I3 H3 R3 s3 o3 => ?_
                      exact hr' I3 H3 y' w d vy vw Q R3.sub (Ls.rb R3 (o2.mono s3) h7) (Ls.rb R3 o3 h8) h9 fun vz rz => k vz I3 H3 R3 ((s1.trans s2).trans s3) rz
            · cases hm
              refine ⟨false, rz.bl_inv, ?_⟩
              show Q (.bl false) H2
              exact k _ I2 H2 R2 (s1.trans s2) .bl
            · cases hm
theorem ev_chain {op op' : CmpOp} {r r' : R2} {f f' : D → D → Option D} {a b c : Expr} {ma mb mc : ML} {pos : Pos} (ho : ∀ X, InF Z X → OpR X (compareOp op) r) (ho' : ∀ X, InF Z X → OpR X (compareOp op') r') (hr : RuleOk Z r f) (hr' : RuleOk Z r' f')
    (ha : LV Z a ma) (hb : LV Z b mb) (hc : LV Z c mc) (hm : lastMarks [op, op'] [b, c] = false := by with_unfolding_all rfl) : EV Z (.Compare a [op, op'] [b, c] pos) (mChain f f' ma mb mc) := by
  obtain ⟨ta, a1, a2⟩ := ha
  obtain ⟨tb, b1, b2⟩ := hb
  obtain ⟨tc, c1, c2⟩ := hc
  exact ⟨_, fun X h => pe_chain (ho X h) (ho' X h) (a1 X h) (b1 X h) (c1 X h) hm, chain_se hr hr' a2 b2 c2⟩
theorem tv_chain {op op' : CmpOp} {r r' : R2} {f f' : D → D → Option D} {a b c : Expr} {ma mb mc : ML} {pos : Pos} (ho : ∀ X, InF Z X → OpR X (compareOp op) r) (ho' : ∀ X, InF Z X → OpR X (compareOp op') r') (hr : RuleOk Z r f) (hr' : RuleOk Z r' f')
    (ha : LV Z a ma) (hb : LV Z b mb) (hc : LV Z c mc) (hm : lastMarks [op, op'] [b, c] = false := by with_unfolding_all rfl) : TV Z (.Compare a [op, op'] [b, c] pos) (mTest (mChain f f' ma mb mc)) := by
  obtain ⟨ta, a1, a2⟩ := ha
  obtain ⟨tb, b1, b2⟩ := hb
  obtain ⟨tc, c1, c2⟩ := hc
  refine ⟨_, fun X h => pt_chain (ho X h) (ho' X h) (a1 X h) (b1 X h) (c1 X h) hm, fun g env σ I H Q c env' R hm k => ?_⟩
  exact chain_se hr hr' a2 b2 c2 g env σ I H _ _ env' R (mTest_inv hm) fun v I' H' R' s rv => ⟨c, rv.bl_inv, k I' H' R' s⟩
end
end Q
namespace Q
open PySem L2
section
variable {Z : Zc}
theorem boot_range : bootBuiltins "range" = some (.type "range") := by decide +kernel
/-! ### lists of expressions: fixed values; what may be read -/
def SA (Z : Zc) (t : TA) (m : En → Option (List D × En)) : Prop := ∀ (g : G) (env : En) (σ : St) (I H : Hp) (Q : List V → Hp → Prop) (ds : List D) (env' : En), SR Z.K Z.cl g env σ I H → m env = some (ds, env') →
  (∀ vs I' H', SR Z.K Z.cl g env' σ I' H' → Same I I' → Reps Z.K Z.cl I' ds vs → Q vs H') → t σ H Q
def AE (Z : Zc) (es : List Expr) (m : En → Option (List D × En)) : Prop := ∃ t, (∀ X, InF Z X → PA X es t) ∧ SA Z t m
def aNil : En → Option (List D × En) := fun env => some ([], env)
def aCons (a : ME) (r : En → Option (List D × En)) : En → Option (List D × En) := fun env => (a env).bind fun p => (r p.2).map fun q => (p.1 :: q.1, q.2)
theorem ae_nil : AE Z [] aNil := ⟨tNil, fun _ _ => pa_nil, fun g env σ I H Q ds env' R hm k => by cases hm; exact k [] I H R (Same.refl _) .nil⟩
theorem ae_cons {e : Expr} {es : List Expr} {m : ME} {r : En → Option (List D × En)} (h : EV Z e m) (hr : AE Z es r) (hs : ∀ env, starEach (e :: es) env = (false, eval e env) :: starEach es env := by intro _; rfl) : AE Z (e :: es) (aCons m r) := by
  obtain ⟨t, h1, h2⟩ := h
  obtain ⟨u, r1, r2⟩ := hr
  refine ⟨_, fun X i => pa_cons (h1 X i) (r1 X i) (hs _), fun g env σ I H Q ds env' R hm k => ?_⟩
  unfold aCons at hm
  cases e1 : m env with
  | none => rw [e1] at hm; cases hm
  | some p =>
    rw [e1] at hm
    simp only [Option.bind_some] at hm
    cases e2 : r p.2 with
    | none => rw [e2] at hm; cases hm
    | some q =>
      rw [e2] at hm; cases hm
      refine h2 g env σ I H _ p.1 p.2 R e1 fun v I1 H1 R1 s1 rv => ?_
      exact r2 g p.2 σ I1 H1 _ q.1 q.2 R1 e2 fun vs I2 H2 R2 s2 rs => k (v :: vs) I2 H2 R2 (s1.trans s2) (.cons (rv.mono s2) rs)
/-! ### displays -/
def mLst (a : En → Option (List D × En)) : ME := fun env => (a env).bind fun p => if p.1.length ≤ sizeLine then some (.lst p.1, p.2) else none
def mTup (a : En → Option (List D × En)) : ME := fun env => (a env).bind fun p => if p.1.length ≤ sizeLine then some (.tup p.1, p.2) else none
theorem ef_lst {es : List Expr} {m : En → Option (List D × En)} {pos : Pos} (h : AE Z es m) : EF Z (.List es pos) (mLst m) := by
  obtain ⟨t, h1, h2⟩ := h
  refine ⟨_, fun X i => pe_lst (h1 X i), fun g env σ I H Q d env' R hm k => ?_⟩
  unfold mLst at hm
  cases e1 : m env with
  | none => rw [e1] at hm; cases hm
  | some p =>
    rw [e1] at hm
    simp only [Option.bind_some] at hm
    split at hm
    · rename_i hl
      cases hm
      exact h2 g env σ I H _ p.1 p.2 R e1 fun vs I1 H1 R1 s1 rs => ⟨by rw [← rs.length]; exact hl, fun q hq => k q _ I1 _ (R1.alloc hq _) s1 (R1.new hq) (.lst rs)⟩
    · cases hm
theorem ev_tup {es : List Expr} {m : En → Option (List D × En)} {k : Nat} {pos : Pos} (h : AE Z es m) : EV Z (.Tuple es k pos) (mTup m) := by
  obtain ⟨t, h1, h2⟩ := h
  refine ⟨_, fun X i => pe_tup (h1 X i), fun g env σ I H Q d env' R hm k => ?_⟩
  unfold mTup at hm
  cases e1 : m env with
  | none => rw [e1] at hm; cases hm
  | some p =>
    rw [e1] at hm
    simp only [Option.bind_some] at hm
    split at hm
    · rename_i hl
      cases hm
      refine h2 g env σ I H _ p.1 p.2 R e1 fun vs I1 H1 R1 s1 rs => ⟨by rw [← rs.length]; exact hl, fun q hq => ?_⟩
      obtain ⟨R2, s2⟩ := (R1.alloc hq _).freeze (R1.new (o := .tup vs) hq)
      exact k _ _ _ R2 (s1.trans s2) (.tup (SqT.of upd_same) (rs.mono s2))
    · cases hm
/-! ### what may be read, as arguments of built-ins -/
inductive Rbs (Z : Zc) (I H : Hp) : List D → List V → Prop
  | nil : Rbs Z I H [] []
  | cons {d v ds vs} : Rb Z I H d v → Rbs Z I H ds vs → Rbs Z I H (d :: ds) (v :: vs)
def lsGet : List Ls → En → Option (List D)
  | [], _ => some []
  | l :: ls, env => (l.get env).bind fun d => (lsGet ls env).map fun ds => d :: ds
inductive LsOks (Z : Zc) (I : Hp) (σ : St) : List Ls → List V → Prop
  | nil : LsOks Z I σ [] []
  | cons {l v ls vs} : LsOk Z I σ l v → LsOks Z I σ ls vs → LsOks Z I σ (l :: ls) (v :: vs)
theorem lsGet_rbs {g : G} {env : En} {σ : St} {I H : Hp} (R : SR Z.K Z.cl g env σ I H) : ∀ {ls : List Ls} {vs : List V} {ds : List D}, LsOks Z I σ ls vs → lsGet ls env = some ds → Rbs Z I H ds vs
  | [], _, ds, .nil, h => by cases h; exact .nil
  | l :: ls, v :: vs, ds, .cons o os, h => by
    unfold lsGet at h
    cases e : l.get env with
    | none => rw [e] at h; cases h
    | some d =>
      rw [e] at h
      cases e2 : lsGet ls env with
      | none => rw [e2] at h; cases h
      | some es => rw [e2] at h; cases h; exact .cons (Ls.rb R o e) (lsGet_rbs R os e2)
def SB (Z : Zc) (t : TA) (m : En → Option (List Ls × En)) : Prop := ∀ (g : G) (env : En) (σ : St) (I H : Hp) (Q : List V → Hp → Prop) (ls : List Ls) (env' : En), SR Z.K Z.cl g env σ I H → m env = some (ls, env') →
  (∀ vs I' H', SR Z.K Z.cl g env' σ I' H' → Same I I' → LsOks Z I' σ ls vs → Q vs H') → t σ H Q
def AL (Z : Zc) (es : List Expr) (m : En → Option (List Ls × En)) : Prop := ∃ t, (∀ X, InF Z X → PA X es t) ∧ SB Z t m
def bNil : En → Option (List Ls × En) := fun env => some ([], env)
def bCons (a : ML) (r : En → Option (List Ls × En)) : En → Option (List Ls × En) := fun env => (a env).bind fun p => (r p.2).map fun q => (p.1 :: q.1, q.2)
theorem al_nil : AL Z [] bNil := ⟨tNil, fun _ _ => pa_nil, fun g env σ I H Q ds env' R hm k => by cases hm; exact k [] I H R (Same.refl _) .nil⟩
theorem al_cons {e : Expr} {es : List Expr} {m : ML} {r : En → Option (List Ls × En)} (h : LV Z e m) (hr : AL Z es r) (hs : ∀ env, starEach (e :: es) env = (false, eval e env) :: starEach es env := by intro _; rfl) : AL Z (e :: es) (bCons m r) := by
  obtain ⟨t, h1, h2⟩ := h
  obtain ⟨u, r1, r2⟩ := hr
  refine ⟨_, fun X i => pa_cons (h1 X i) (r1 X i) (hs _), fun g env σ I H Q ds env' R hm k => ?_⟩
  unfold bCons at hm
  cases e1 : m env with
  | none => rw [e1] at hm; cases hm
  | some p =>
    rw [e1] at hm
    simp only [Option.bind_some] at hm
    cases e2 : r p.2 with
    | none => rw [e2] at hm; cases hm
    | some q =>
      rw [e2] at hm; cases hm
      refine h2 g env σ I H _ p.1 p.2 R e1 fun v I1 H1 R1 s1 rv => ?_
      exact r2 g p.2 σ I1 H1 _ q.1 q.2 R1 e2 fun vs I2 H2 R2 s2 rs => k (v :: vs) I2 H2 R2 (s1.trans s2) (.cons (rv.mono s2) rs)
def RuleC (Z : Zc) (r : List V → Hp → VK → Prop) (f : List D → Option D) : Prop := ∀ (I H : Hp) (xs : List D) (z : D) (vs : List V) (Q : VK), Same I H → Rbs Z I H xs vs → f xs = some z → (∀ vz, Rep Z.K Z.cl I z vz → Q vz H) → r vs H Q
def RuleCN (Z : Zc) (r : List V → Hp → VK → Prop) (f : List D → Option D) : Prop := ∀ (I H : Hp) (xs : List D) (z : D) (vs : List V) (Q : VK), Same I H → Rbs Z I H xs vs → f xs = some z →
  (∀ p o, H p = none → ObjRep Z.K Z.cl I z o → Q (.ref p) (upd H p o)) → r vs H Q
def mBi (f : List D → Option D) (a : En → Option (List Ls × En)) : ME := fun env => (a env).bind fun p => (lsGet p.1 p.2).bind fun ds => (f ds).map fun z => (z, p.2)
theorem mBi_inv {f : List D → Option D} {a : En → Option (List Ls × En)} {env env' : En} {z : D} (h : mBi f a env = some (z, env')) : ∃ ls ds, a env = some (ls, env') ∧ lsGet ls env' = some ds ∧ f ds = some z := by
  unfold mBi at h
  cases e1 : a env with
  | none => rw [e1] at h; cases h
  | some p =>
    rw [e1] at h
    simp only [Option.bind_some] at h
    cases e2 : lsGet p.1 p.2 with
    | none => rw [e2] at h; cases h
    | some ds =>
      rw [e2] at h
      simp only [Option.bind_some] at h
      cases e3 : f ds with
      | none => rw [e3] at h; cases h
      | some w => rw [e3] at h; cases h; exact ⟨_, _, rfl, e2, e3⟩
theorem bi_se {r : List V → Hp → VK → Prop} {f : List D → Option D} {t : TA} {m : En → Option (List Ls × En)} (hr : RuleC Z r f) (h : SB Z t m) : SE Z (tCB r t) (mBi f m) := by
  intro g env σ I H Q d env' R hm k
  obtain ⟨ls, ds, h1, h2, h3⟩ := mBi_inv hm
  exact h g env σ I H _ ls env' R h1 fun vs I1 H1 R1 s1 os => hr I1 H1 ds d vs Q R1.sub (lsGet_rbs R1 os h2) h3 fun vz rz => k vz I1 H1 R1 s1 rz
theorem bi_sf {r : List V → Hp → VK → Prop} {f : List D → Option D} {t : TA} {m : En → Option (List Ls × En)} (hr : RuleCN Z r f) (h : SB Z t m) : SF Z (tCB r t) (mBi f m) := by
  intro g env σ I H Q d env' R hm k
  obtain ⟨ls, ds, h1, h2, h3⟩ := mBi_inv hm
  exact h g env σ I H _ ls env' R h1 fun vs I1 H1 R1 s1 os => hr I1 H1 ds d vs Q R1.sub (lsGet_rbs R1 os h2) h3 fun p o hp ro => k p o I1 _ (R1.alloc hp o) s1 (R1.new hp) ro
theorem ev_callB {x : Str} {id : String} {r : List V → Hp → VK → Prop} {f : List D → Option D} {e : Expr} {es : List Expr} {m : En → Option (List Ls × En)} {p pos : Pos} (hc : ∀ X, InF Z X → CallR X (.builtin id) r) (hr : RuleC Z r f) (hg : GlZ Z x) (hm : Z.mg x = none)
    (hv : bootBuiltins x = some (.builtin id)) (ha : AL Z (e :: es) m) (hn : x ≠ "__name__" := by decide) (hdb : (x == ("__debug__" : Str)) = false := by decide)
    (he : ∀ env, starEach (e :: es) env = (false, eval e env) :: starEach es env := by intro _; rfl) (hpl : ∀ env, (backTo pos (starEach es env)).any (·.1) = false := by intro _; rfl) : EV Z (.Call (.Name x p) (e :: es) [] pos) (mBi f m) := by
  obtain ⟨t, h1, h2⟩ := ha
  exact ⟨_, fun X h => pe_callB (hc X h) (glOf h hg) (by rw [h.mg]; exact hm) hv (h1 X h) hn hdb (he _) (hpl _), bi_se hr h2⟩
theorem ef_callB {x : Str} {id : String} {r : List V → Hp → VK → Prop} {f : List D → Option D} {e : Expr} {es : List Expr} {m : En → Option (List Ls × En)} {p pos : Pos} (hc : ∀ X, InF Z X → CallR X (.builtin id) r) (hr : RuleCN Z r f) (hg : GlZ Z x) (hm : Z.mg x = none)
    (hv : bootBuiltins x = some (.builtin id)) (ha : AL Z (e :: es) m) (hn : x ≠ "__name__" := by decide) (hdb : (x == ("__debug__" : Str)) = false := by decide)
    (he : ∀ env, starEach (e :: es) env = (false, eval e env) :: starEach es env := by intro _; rfl) (hpl : ∀ env, (backTo pos (starEach es env)).any (·.1) = false := by intro _; rfl) : EF Z (.Call (.Name x p) (e :: es) [] pos) (mBi f m) := by
  obtain ⟨t, h1, h2⟩ := ha
  exact ⟨_, fun X h => pe_callB (hc X h) (glOf h hg) (by rw [h.mg]; exact hm) hv (h1 X h) hn hdb (he _) (hpl _), bi_sf hr h2⟩
theorem ev_callT {x : Str} {T : String} {r : List V → Hp → VK → Prop} {f : List D → Option D} {e : Expr} {es : List Expr} {m : En → Option (List Ls × En)} {p pos : Pos} (hc : ∀ X, InF Z X → CallR X (.type T) r) (hr : RuleC Z r f) (hg : GlZ Z x) (hm : Z.mg x = none)
    (hv : bootBuiltins x = some (.type T)) (ha : AL Z (e :: es) m) (hn : x ≠ "__name__" := by decide) (hdb : (x == ("__debug__" : Str)) = false := by decide)
    (he : ∀ env, starEach (e :: es) env = (false, eval e env) :: starEach es env := by intro _; rfl) (hpl : ∀ env, (backTo pos (starEach es env)).any (·.1) = false := by intro _; rfl) : EV Z (.Call (.Name x p) (e :: es) [] pos) (mBi f m) := by
  obtain ⟨t, h1, h2⟩ := ha
  exact ⟨_, fun X h => pe_callTy (hc X h) (glOf h hg) (by rw [h.mg]; exact hm) hv (h1 X h) hn hdb (he _) (hpl _), bi_se hr h2⟩
theorem ef_callT {x : Str} {T : String} {r : List V → Hp → VK → Prop} {f : List D → Option D} {e : Expr} {es : List Expr} {m : En → Option (List Ls × En)} {p pos : Pos} (hc : ∀ X, InF Z X → CallR X (.type T) r) (hr : RuleCN Z r f) (hg : GlZ Z x) (hm : Z.mg x = none)
    (hv : bootBuiltins x = some (.type T)) (ha : AL Z (e :: es) m) (hn : x ≠ "__name__" := by decide) (hdb : (x == ("__debug__" : Str)) = false := by decide)
    (he : ∀ env, starEach (e :: es) env = (false, eval e env) :: starEach es env := by intro _; rfl) (hpl : ∀ env, (backTo pos (starEach es env)).any (·.1) = false := by intro _; rfl) : EF Z (.Call (.Name x p) (e :: es) [] pos) (mBi f m) := by
  obtain ⟨t, h1, h2⟩ := ha
  exact ⟨_, fun X h => pe_callTy (hc X h) (glOf h hg) (by rw [h.mg]; exact hm) hv (h1 X h) hn hdb (he _) (hpl _), bi_sf hr h2⟩
/-! len -/
def dLen : List D → Option D
  | [.str y] => if y.length ≤ sizeLine then some (.int y.length) else none
  | [.lst xs] => some (.int xs.length)
  | [.scr xs] => some (.int xs.length)
  | [.tup xs] => some (.int xs.length)
  | [.dic ks _] => some (.int ks.length)
  | _ => none
theorem Rbs.one {I H : Hp} {d : D} {vs : List V} (h : Rbs Z I H [d] vs) : ∃ v, vs = [v] ∧ Rb Z I H d v := by
  cases h with
  | cons a b => cases b; exact ⟨_, rfl, a⟩
theorem Rbs.two {I H : Hp} {d e : D} {vs : List V} (h : Rbs Z I H [d, e] vs) : ∃ v u, vs = [v, u] ∧ Rb Z I H d v ∧ Rb Z I H e u := by
  cases h with
  | cons a b => cases b with | cons c d => cases d; exact ⟨_, _, rfl, a, c⟩
def rLenE (K : PySem.W.Frag) : List V → Hp → VK → Prop := fun xs H Q => (∃ x n, xs = [x] ∧ LenV K x H n ∧ Q (.int n) H) ∨ ∃ (a : Addr) (kvs : List (Key × V)), xs = [.ref a] ∧ Rd H a (.dK kvs) ∧ Q (.int kvs.length) H
theorem cr_len {X : Cx} (h : InF Z X) : CallR X (.builtin "len") (rLenE Z.K) := by
  rw [← h.K]
  intro pins s σ H xs us Q I r h
  rcases h with h | ⟨a, kvs, rfl, e, q⟩
  · exact call_len pins s σ H xs us Q I r h
  · obtain ⟨u, rfl, rx⟩ := vals1 r
    cases (show u = Value.ref a from rx)
    exact d_len I e fun t s' I' => ⟨.int kvs.length, H, I', ⟨t, rfl⟩, q⟩
theorem ok_len : RuleC Z (rLenE Z.K) dLen := by
  intro I H xs z vs Q s rs h k
  unfold dLen at h
  split at h
  · split at h
    · rename_i hl
      cases h
      obtain ⟨v, rfl, r⟩ := rs.one
      cases r.str
      exact .inl ⟨_, _, rfl, ⟨hl, rfl⟩, k _ .int⟩
    · cases h
  · cases h
    obtain ⟨v, rfl, r⟩ := rs.one
    obtain ⟨a, us, rfl, h1, h2⟩ := r.lst s
    exact .inl ⟨_, _, rfl, .inl ⟨us, SqL.of h1, rfl⟩, by rw [← h2.length]; exact k _ .int⟩
  · cases h
    obtain ⟨v, rfl, r⟩ := rs.one
    obtain ⟨a, us, rfl, h1, h2⟩ := r.scr s
    exact .inl ⟨_, _, rfl, .inl ⟨us, h1, rfl⟩, by rw [← h2.length]; exact k _ .int⟩
  · cases h
    obtain ⟨v, rfl, r⟩ := rs.one
    obtain ⟨a, us, rfl, h1, h2⟩ := r.tup s
    exact .inl ⟨_, _, rfl, .inr ⟨us, h1, rfl⟩, by rw [← h2.length]; exact k _ .int⟩
  · cases h
    obtain ⟨v, rfl, r⟩ := rs.one
    obtain ⟨a, us, rfl, h1, h2, h3⟩ := r.dic s
    refine .inr ⟨a, _, rfl, h1, ?_⟩
    rw [List.length_zip, ← h2.length, ← h3, Nat.min_self]
    exact k _ .int
  · cases h
/-! int(n), abs(n), min(xs), list(xs), isinstance -/
def dInt : List D → Option D
  | [.int i] => some (.int i)
  | [.bl b] => some (.int (if b then 1 else 0))
  | _ => none
def rIntE : List V → Hp → VK → Prop := fun xs H Q => (∃ i, xs = [.int i] ∧ Q (.int i) H) ∨ ∃ k, xs = [.bl k] ∧ Q (.int (if k then 1 else 0)) H
theorem ok_int : RuleC Z rIntE dInt := by
  intro I H xs z vs Q s rs h k
  unfold dInt at h
  split at h
  · cases h; obtain ⟨v, rfl, r⟩ := rs.one; cases r.int; exact .inl ⟨_, rfl, k _ .int⟩
  · cases h; obtain ⟨v, rfl, r⟩ := rs.one; cases r.bl; exact .inr ⟨_, rfl, k _ .int⟩
  · cases h
theorem cr_int {X : Cx} : CallR X (.type "int") rIntE := call_int1
def dAbs : List D → Option D
  | [.int i] => some (.int (if i < 0 then -i else i))
  | _ => none
def rAbsE : List V → Hp → VK → Prop := fun xs H Q => ∃ i, xs = [.int i] ∧ Q (.int (if i < 0 then -i else i)) H
theorem cr_abs {X : Cx} : CallR X (.builtin "abs") rAbsE := call_abs
theorem ok_abs : RuleC Z rAbsE dAbs := by
  intro I H xs z vs Q s rs h k
  unfold dAbs at h
  split at h
  · cases h; obtain ⟨v, rfl, r⟩ := rs.one; cases r.int; exact ⟨_, rfl, k _ .int⟩
  · cases h
def intsD : List D → Option (List Int)
  | [] => some []
  | .int i :: ds => (intsD ds).map fun ns => i :: ns
  | _ => none
theorem ints_rep {K : PySem.W.Frag} {cl : String → Option Addr} {I : Hp} : ∀ {ds : List D} {ns : List Int} {us : List V}, intsD ds = some ns → Reps K cl I ds us → us = ns.map V.int
  | [], ns, us, h, r => by cases h; cases r; rfl
  | d :: ds, ns, us, h, r => by
    cases d <;> simp only [intsD] at h <;> first | cases h | skip
    cases e : intsD ds with
    | none => rw [e] at h; cases h
    | some ms =>
      rw [e] at h; cases h
      cases r with
      | cons r1 r2 => rw [ints_rep e r2, r1.int_inv]; rfl
def leastI : List Int → Option Int
  | [] => none
  | n :: ns => some (ns.foldl min n)
theorem foldl_min_mem : ∀ (ns : List Int) (n : Int), ns.foldl min n ∈ n :: ns
  | [], n => by simp
  | m :: ns, n => by
    have := foldl_min_mem ns (min n m)
    rw [List.foldl_cons]
    rcases List.mem_cons.mp this with h | h
    · rw [h]
      by_cases e : n ≤ m
      · simp [Int.min_def, e]
      · simp [Int.min_def, e]
    · simp [h]
theorem foldl_min_le : ∀ (ns : List Int) (n : Int), ns.foldl min n ≤ n ∧ ∀ y ∈ ns, ns.foldl min n ≤ y
  | [], n => by simp
  | m :: ns, n => by
    obtain ⟨h1, h2⟩ := foldl_min_le ns (min n m)
    rw [List.foldl_cons]
    refine ⟨by omega, fun y hy => ?_⟩
    rcases List.mem_cons.mp hy with h | h
    · subst h; omega
    · exact h2 y h
def dMin : List D → Option D
  | [.lst ds] => (intsD ds).bind fun ns => (leastI ns).map .int
  | _ => none
def rMinE (K : PySem.W.Frag) : List V → Hp → VK → Prop := fun vs H Q => ∃ (a : Addr) (ns : List Int), vs = [V.ref a] ∧ SqL K H a (ns.map V.int) ∧ 0 < ns.length ∧ ∀ m, m ∈ ns → (∀ y, y ∈ ns → m ≤ y) → Q (.int m) H
theorem cr_minE {X : Cx} (h : InF Z X) : CallR X (.builtin "min") (rMinE Z.K) := by rw [← h.K]; exact cr_min h.calm
theorem ok_min : RuleC Z (rMinE Z.K) dMin := by
  intro I H xs z vs Q s rs h k
  unfold dMin at h
  split at h
  · rename_i ds
    cases e2 : intsD ds with
    | none => rw [e2] at h; cases h
    | some ns =>
      rw [e2] at h
      simp only [Option.bind_some] at h
      cases ns with
      | nil => cases h
      | cons n ns =>
        cases h
        obtain ⟨v, rfl, r⟩ := rs.one
        have hm := foldl_min_le ns n
        have hmem := foldl_min_mem ns n
        obtain ⟨a, us, rfl, h1, h2⟩ := r.lst s
        have e3 := ints_rep e2 h2
        subst e3
        refine ⟨a, n :: ns, rfl, SqL.of h1, by simp, fun m h1 h2 => ?_⟩
        have e : m = ns.foldl min n := by
          have q1 := h2 _ hmem
          rcases List.mem_cons.mp h1 with h3 | h3
          · subst h3; have := hm.1; omega
          · have := hm.2 m h3; omega
        rw [e]; exact k _ .int
  · cases h
def dList : List D → Option D
  | [x] => x.items?.map .lst
  | _ => none
def rListE (K : PySem.W.Frag) : List V → Hp → VK → Prop := fun xs H Q => ∃ p ys, xs = [.ref p] ∧ (SqL K H p ys ∨ SqT K H p ys) ∧ ∀ l, H l = none → Q (.ref l) (upd H l (.lst ys))
theorem cr_list {X : Cx} (h : InF Z X) : CallR X (.type "list") (rListE Z.K) := by rw [← h.K]; exact call_list_of
theorem ok_list : RuleCN Z (rListE Z.K) dList := by
  intro I H xs z vs Q s rs h k
  unfold dList at h
  split at h
  · rename_i x
    cases e1 : x.items? with
    | none => rw [e1] at h; cases h
    | some ds =>
      rw [e1] at h; cases h
      obtain ⟨v, rfl, r⟩ := rs.one
      obtain ⟨a, us, rfl, h1, h2⟩ := r.items s e1
      exact ⟨a, us, rfl, h1, fun l hl => k l _ hl (.lst h2)⟩
  · cases h
def D.ty : D → Option String
  | .non => some "NoneType"
  | .bl _ => some "bool"
  | .int _ => some "int"
  | .str _ => some "str"
  | .lst _ => some "list"
  | .tup _ => some "tuple"
  | .dic _ _ => some "dict"
  | _ => none
def dIsi : List D → Option D
  | [x, .typ n] => x.ty.bind fun a => (kitB a n).map .bl
  | _ => none
theorem ty_of {I H : Hp} (s : Same I H) {d : D} {a : String} {v : V} (h : d.ty = some a) (r : Rb Z I H d v) : TyX Z.K H v (.type a) := by
  cases d <;> simp only [D.ty] at h <;> first | cases h | skip
  · cases r.non; exact .base .non
  · cases r.bl; exact .base (.bl _)
  · cases r.int; exact .base (.int _)
  · cases r.str; exact .base (.str _)
  · obtain ⟨a, us, rfl, h1, _⟩ := r.lst s; exact .base (.lst h1)
  · obtain ⟨a, us, rfl, (h1 | ⟨o, h1⟩) | ⟨o, its, n, h1, h3, _⟩, _⟩ := r.tup s
    · exact .base (.tup h1)
    · exact .fTuple h1
    · exact .kTuple h1 h3
  · obtain ⟨a, us, rfl, h1 | ⟨o, h1⟩, _⟩ := r.dic s
    · exact .base (.dK h1)
    · exact .fDict h1
theorem cr_isi {X : Cx} (h : InF Z X) : CallR X (.builtin "isinstance") (rIsi Z.K) := by rw [← h.K]; exact call_isi
theorem ok_isi : RuleC Z (rIsi Z.K) dIsi := by
  intro I H xs z vs Q s rs h k
  unfold dIsi at h
  split at h
  · rename_i x n
    cases e1 : x.ty with
    | none => rw [e1] at h; cases h
    | some a =>
      rw [e1] at h
      simp only [Option.bind_some] at h
      cases e2 : kitB a n with
      | none => rw [e2] at h; cases h
      | some b =>
        rw [e2] at h; cases h
        obtain ⟨v, u, rfl, r1, r2⟩ := rs.two
        cases r2.typ
        exact ⟨v, _, _, _, b, rfl, .ty n, ty_of s e1 r1, kit_ty e2, k _ .bl⟩
  · cases h
end
end Q
namespace Q
open PySem L2
section
variable {Z : Zc}
/-! ### slices -/
def SO (Z : Zc) (t : TO) (m : En → Option (Option Int × En)) : Prop := ∀ (g : G) (env : En) (σ : St) (I H : Hp) (Q : Option Int → Hp → Prop) (o : Option Int) (env' : En), SR Z.K Z.cl g env σ I H → m env = some (o, env') →
  (∀ I' H', SR Z.K Z.cl g env' σ I' H' → Same I I' → Q o H') → t σ H Q
def OV (Z : Zc) (e : Option Expr) (m : En → Option (Option Int × En)) : Prop := ∃ t, (∀ X, InF Z X → PO X e t) ∧ SO Z t m
def oNone : En → Option (Option Int × En) := fun env => some (none, env)
def oSome (a : ME) : En → Option (Option Int × En) := fun env => (a env).bind fun p => match p.1 with
  | .int i => some (some i, p.2)
  | _ => none
theorem ov_none : OV Z none oNone := ⟨_, fun _ _ => po_none, fun g env σ I H Q o env' R hm k => by cases hm; exact k I H R (Same.refl _)⟩
theorem ov_some {e : Expr} {m : ME} (h : EV Z e m) : OV Z (some e) (oSome m) := by
  obtain ⟨t, h1, h2⟩ := h
  refine ⟨_, fun X i => po_some (h1 X i), fun g env σ I H Q o env' R hm k => ?_⟩
  unfold oSome at hm
  cases e1 : m env with
  | none => rw [e1] at hm; cases hm
  | some p =>
    obtain ⟨d, en⟩ := p
    rw [e1] at hm
    simp only [Option.bind_some] at hm
    cases d <;> first | cases hm | skip
    exact h2 g env σ I H _ _ _ R e1 fun v I1 H1 R1 s1 rv => ⟨_, rv.int_inv, k I1 H1 R1 s1⟩
def mSl (f : D → Option Int → Option Int → Option D) (a : ML) (lo hi : En → Option (Option Int × En)) : ME := fun env => (a env).bind fun p => (lo p.2).bind fun q => (hi q.2).bind fun r => (p.1.get r.2).bind fun x => (f x q.1 r.1).map fun z => (z, r.2)
theorem mSl_inv {f : D → Option Int → Option Int → Option D} {a : ML} {lo hi : En → Option (Option Int × En)} {env env' : En} {z : D} (h : mSl f a lo hi env = some (z, env')) :
    ∃ la e1 l e2 u x, a env = some (la, e1) ∧ lo e1 = some (l, e2) ∧ hi e2 = some (u, env') ∧ la.get env' = some x ∧ f x l u = some z := by
  unfold mSl at h
  cases h1 : a env with
  | none => rw [h1] at h; cases h
  | some p =>
    rw [h1] at h; simp only [Option.bind_some] at h
    cases h2 : lo p.2 with
    | none => rw [h2] at h; cases h
    | some q =>
      rw [h2] at h; simp only [Option.bind_some] at h
      cases h3 : hi q.2 with
      | none => rw [h3] at h; cases h
      | some r =>
        rw [h3] at h; simp only [Option.bind_some] at h
        cases h4 : p.1.get r.2 with
        | none => rw [h4] at h; cases h
        | some x =>
          rw [h4] at h; simp only [Option.bind_some] at h
          cases h5 : f x q.1 r.1 with
          | none => rw [h5] at h; cases h
          | some w => rw [h5] at h; cases h; exact ⟨_, _, _, _, _, _, rfl, h2, h3, h4, h5⟩
def dSlS : D → Option Int → Option Int → Option D
  | .str z, lo, hi => if z.length ≤ sizeLine then some (.str (cutS z lo hi)) else none
  | _, _, _ => none
theorem ev_slS {e : Expr} {lo hi : Option Expr} {m : ML} {ml mh : En → Option (Option Int × En)} {p2 pos : Pos} (h : LV Z e m) (hl : OV Z lo ml) (hh : OV Z hi mh) : EV Z (.Subscript e (.Slice lo hi none p2) pos) (mSl dSlS m ml mh) := by
  obtain ⟨t, h1, h2⟩ := h
  obtain ⟨tl, l1, l2⟩ := hl
  obtain ⟨tu, u1, u2⟩ := hh
  refine ⟨_, fun X i => pe_slice sl_str (h1 X i) (l1 X i) (u1 X i), fun g env σ I H Q d env' R hm k => ?_⟩
  obtain ⟨la, e1, l, e2, u, x, q1, q2, q3, q4, q5⟩ := mSl_inv hm
  refine h2 g env σ I H _ la e1 R q1 fun v I1 H1 R1 s1 o1 => l2 g e1 σ I1 H1 _ l e2 R1 q2 fun I2 H2 R2 s2 => u2 g e2 σ I2 H2 _ u env' R2 q3 fun I3 H3 R3 s3 => ?_
  have rb := Ls.rb R3 (o1.mono (s2.trans s3)) q4
  unfold dSlS at q5
  split at q5
  · split at q5
    · rename_i hz
      cases q5
      cases rb.str
      exact ⟨_, rfl, hz, k _ I3 H3 R3 ((s1.trans s2).trans s3) .str⟩
    · cases q5
  · cases q5
def cutD (xs : List D) (lo hi : Option Int) : List D := (xs.drop (HT.sIx xs.length 0 lo)).take (HT.sIx xs.length xs.length hi - HT.sIx xs.length 0 lo)
theorem Reps.drop {K : PySem.W.Frag} {cl : String → Option Addr} {I : Hp} : ∀ {xs : List D} {vs : List V} (n : Nat), Reps K cl I xs vs → Reps K cl I (xs.drop n) (vs.drop n)
  | _, _, 0, r => r
  | _, _, n + 1, .nil => .nil
  | _, _, n + 1, .cons _ t => Reps.drop n t
theorem Reps.take {K : PySem.W.Frag} {cl : String → Option Addr} {I : Hp} : ∀ {xs : List D} {vs : List V} (n : Nat), Reps K cl I xs vs → Reps K cl I (xs.take n) (vs.take n)
  | _, _, 0, _ => .nil
  | _, _, n + 1, .nil => .nil
  | _, _, n + 1, .cons r t => .cons r (Reps.take n t)
theorem Reps.cut {K : PySem.W.Frag} {cl : String → Option Addr} {I : Hp} {xs : List D} {vs : List V} {lo hi : Option Int} (r : Reps K cl I xs vs) : Reps K cl I (cutD xs lo hi) (cutV vs lo hi) := by
  unfold cutD cutV
  rw [← r.length]
  exact (r.drop _).take _
def dSlL : D → Option Int → Option Int → Option D
  | .lst xs, lo, hi => some (.lst (cutD xs lo hi))
  | .scr xs, lo, hi => some (.lst (cutD xs lo hi))
  | _, _, _ => none
theorem ef_slL {e : Expr} {lo hi : Option Expr} {m : ML} {ml mh : En → Option (Option Int × En)} {p2 pos : Pos} (h : LV Z e m) (hl : OV Z lo ml) (hh : OV Z hi mh) : EF Z (.Subscript e (.Slice lo hi none p2) pos) (mSl dSlL m ml mh) := by
  obtain ⟨t, h1, h2⟩ := h
  obtain ⟨tl, l1, l2⟩ := hl
  obtain ⟨tu, u1, u2⟩ := hh
  refine ⟨tSl (rSlL Z.K) t tl tu, fun X i => by have q := pe_slice (X := X) sl_list (h1 X i) (l1 X i) (u1 X i) (pos := pos) (p2 := p2); rw [i.K] at q; exact q, fun g env σ I H Q d env' R hm k => ?_⟩
  obtain ⟨la, e1, l, e2, u, x, q1, q2, q3, q4, q5⟩ := mSl_inv hm
  refine h2 g env σ I H _ la e1 R q1 fun v I1 H1 R1 s1 o1 => l2 g e1 σ I1 H1 _ l e2 R1 q2 fun I2 H2 R2 s2 => u2 g e2 σ I2 H2 _ u env' R2 q3 fun I3 H3 R3 s3 => ?_
  have rb := Ls.rb R3 (o1.mono (s2.trans s3)) q4
  unfold dSlL at q5
  split at q5
  · cases q5
    obtain ⟨a, vs, rfl, ha, ra⟩ := rb.lst R3.sub
    exact ⟨a, vs, rfl, SqL.of ha, fun p hp => k p _ I3 _ (R3.alloc hp _) ((s1.trans s2).trans s3) (R3.new hp) (.lst ra.cut)⟩
  · cases q5
    obtain ⟨a, vs, rfl, ha, ra⟩ := rb.scr R3.sub
    exact ⟨a, vs, rfl, ha, fun p hp => k p _ I3 _ (R3.alloc hp _) ((s1.trans s2).trans s3) (R3.new hp) (.lst ra.cut)⟩
  · cases q5
/-! ### o.f -/
def lookF (ks : List Str) (xs : List D) (f : Str) : Option D := (ks.zip xs).lookup f
theorem lookF_rep {K : PySem.W.Frag} {cl : String → Option Addr} {I : Hp} {f : Str} : ∀ {ks : List Str} {xs : List D} {vs : List V} {d : D}, Reps K cl I xs vs → lookF ks xs f = some d → ∃ v, (ks.zip vs).lookup f = some v ∧ Rep K cl I d v
  | [], xs, vs, d, r, h => by unfold lookF at h; simp at h
  | q :: ks, [], [], d, .nil, h => by unfold lookF at h; simp at h
  | q :: ks, e :: es, v :: vs, d, .cons r1 r2, h => by
    unfold lookF at h
    rw [List.zip_cons_cons, List.lookup_cons] at h ⊢
    cases e : f == q with
    | true => rw [e] at h; cases h; exact ⟨v, rfl, r1⟩
    | false => rw [e] at h; exact lookF_rep r2 h
def dFld (c : String) (f : Str) : D → Option D
  | .obj c' ks xs => if c' = c then lookF ks xs f else none
  | _ => none
def mFld (c : String) (f : Str) (a : ML) : ME := fun env => (a env).bind fun p => (p.1.get p.2).bind fun x => (dFld c f x).map fun z => (z, p.2)
theorem ev_fld {c : String} {f : Str} {e : Expr} {m : ML} {pos : Pos} (h : LV Z e m) (hc : ∀ C, Z.cl c = some C → Cls Z.K C ∧ NoAttr Z.K C f) (hb : ∀ env, attributeBase e f env (eval e env) = eval e env := by intro _; rfl) : EV Z (.Attribute e f pos) (mFld c f m) := by
  obtain ⟨t, h1, h2⟩ := h
  refine ⟨tFld Z.K t f, fun X i => by have q := pe_fld (X := X) (h1 X i) (hb _) (pos := pos) (f := f); rw [i.K] at q; exact q, fun g env σ I H Q d env' R hm k => ?_⟩
  unfold mFld at hm
  cases q1 : m env with
  | none => rw [q1] at hm; cases hm
  | some p =>
    rw [q1] at hm; simp only [Option.bind_some] at hm
    cases q2 : p.1.get p.2 with
    | none => rw [q2] at hm; cases hm
    | some x =>
      rw [q2] at hm; simp only [Option.bind_some] at hm
      cases q3 : dFld c f x with
      | none => rw [q3] at hm; cases hm
      | some z =>
        rw [q3] at hm; cases hm
        refine h2 g env σ I H _ p.1 p.2 R q1 fun v I1 H1 R1 s1 o1 => ?_
        have rb := Ls.rb R1 o1 q2
        unfold dFld at q3
        split at q3
        · split at q3
          · rename_i hcc
            subst hcc
            obtain ⟨a, C, dx, vs, rfl, ha, hC, ra, hl⟩ := rb.ob R1.sub
            obtain ⟨u, hu, ru⟩ := lookF_rep ra q3
            exact ⟨a, C, dx, _, u, rfl, ha, (hc C hC).1, (hc C hC).2, hu, k u I1 H1 R1 s1 ru⟩
          · cases q3
        · cases q3
/-! ## statements -/
def mNext : MS := fun env => some (.nx env)
theorem bv_nil : BV Z [] mNext := ⟨_, fun _ _ => pss_nil, fun g env σ I H D fl R hm k => by cases hm; exact k σ I H R (Same.refl _)⟩
def mSeq (a b : MS) : MS := fun env => (a env).bind fun fl => match fl with
  | .nx e => b e
  | fl => some fl
theorem bv_cons {s : Stmt} {r : List Stmt} {a b : MS} (ha : SV Z s a) (hb : BV Z r b) : BV Z (s :: r) (mSeq a b) := by
  obtain ⟨t, h1, h2⟩ := ha
  obtain ⟨u, r1, r2⟩ := hb
  refine ⟨_, fun X i => pss_cons (h1 X i) (r1 X i), fun g env σ I H D fl R hm k => ?_⟩
  unfold mSeq at hm
  cases e1 : a env with
  | none => rw [e1] at hm; cases hm
  | some f1 =>
    rw [e1] at hm
    simp only [Option.bind_some] at hm
    refine h2 g env σ I H _ f1 R e1 ?_
    cases f1 with
    | nx e => exact fun σ' I' H' R' s' => r2 g e σ' I' H' D fl R' hm (k.mono s')
    | bk e => cases hm; exact k
    | ct e => cases hm; exact k
    | ret md d e => cases hm; exact k
theorem bv_one {s : Stmt} {a : MS} (ha : SV Z s a) : BV Z [s] a := by
  obtain ⟨t, h1, h2⟩ := ha
  exact ⟨t, fun X i => pss_one (h1 X i), h2⟩
theorem sv_pass {pos : Pos} : SV Z (.Pass pos) mNext := ⟨_, fun _ _ => ps_pass, fun g env σ I H D fl R hm k => by cases hm; exact k σ I H R (Same.refl _)⟩
theorem sv_doc {x j pos pos'} : SV Z (.Expr (.Constant (.str x) j pos) pos') mNext := ⟨_, fun _ _ => ps_doc, fun g env σ I H D fl R hm k => by cases hm; exact k σ I H R (Same.refl _)⟩
def mBrk : MS := fun env => some (.bk env)
def mCnt : MS := fun env => some (.ct env)
theorem sv_break {pos : Pos} : SV Z (.Break pos) mBrk := ⟨_, fun _ _ => ps_break, fun g env σ I H D fl R hm k => by cases hm; exact k σ I H R (Same.refl _)⟩
theorem sv_continue {pos : Pos} : SV Z (.Continue pos) mCnt := ⟨_, fun _ _ => ps_continue, fun g env σ I H D fl R hm k => by cases hm; exact k σ I H R (Same.refl _)⟩
/-- a statement that is never come to -/
def mNever : MS := fun _ => none
theorem sv_never {s : Stmt} : SV Z s mNever := ⟨_, fun _ _ => ps_never, fun g env σ I H D fl R hm k => by cases hm⟩
def mDrop (a : ME) : MS := fun env => (a env).map fun p => .nx p.2
theorem sv_expr {e : Expr} {m : ME} {pos : Pos} (h : EV Z e m) (hs : ∀ env, swapsWith e none pos.line env = pure false := by intro _; rfl) : SV Z (.Expr e pos) (mDrop m) := by
  obtain ⟨t, h1, h2⟩ := h
  refine ⟨_, fun X i => ps_expr (h1 X i) (hs _), fun g env σ I H D fl R hm k => ?_⟩
  unfold mDrop at hm
  cases e1 : m env with
  | none => rw [e1] at hm; cases hm
  | some p => rw [e1] at hm; cases hm; exact h2 g env σ I H _ p.1 p.2 R e1 fun v I1 H1 R1 s1 _ => k σ I1 H1 R1 s1
def mRet (a : ME) : MS := fun env => (a env).map fun p => .ret .imm p.1 p.2
theorem sv_ret {e : Expr} {m : ME} {pos : Pos} (h : EV Z e m) : SV Z (.Return (some e) pos) (mRet m) := by
  obtain ⟨t, h1, h2⟩ := h
  refine ⟨_, fun X i => ps_ret (h1 X i), fun g env σ I H D fl R hm k => ?_⟩
  unfold mRet at hm
  cases e1 : m env with
  | none => rw [e1] at hm; cases hm
  | some p => rw [e1] at hm; cases hm; exact h2 g env σ I H _ p.1 p.2 R e1 fun v I1 H1 R1 s1 rv => k σ I1 H1 v R1 s1 rv
def mRetF (a : ME) : MS := fun env => (a env).map fun p => .ret .new p.1 p.2
theorem sv_retF {e : Expr} {m : ME} {pos : Pos} (h : EF Z e m) : SV Z (.Return (some e) pos) (mRetF m) := by
  obtain ⟨t, h1, h2⟩ := h
  refine ⟨_, fun X i => ps_ret (h1 X i), fun g env σ I H D fl R hm k => ?_⟩
  unfold mRetF at hm
  cases e1 : m env with
  | none => rw [e1] at hm; cases hm
  | some p => rw [e1] at hm; cases hm; exact h2 g env σ I H _ p.1 p.2 R e1 fun q o I1 H1 R1 s1 n r => k σ I1 H1 _ R1 s1 ⟨q, o, rfl, n, r⟩
/-- return x, x an own object: handed out as new -/
def mRetO (i : Nat) : MS := fun env => match env[i]? with
  | some (.own d) => some (.ret .new d (env.set i .un))
  | some (.imm d) => some (.ret .imm d env)
  | _ => none
theorem sv_retO {i : Nat} {x : Str} {p pos : Pos} (hN : Z.N[i]? = some x) (hv : Vis Z.sc x) (hd : (x == ("__debug__" : Str)) = false := by decide) (hcd : (x == ("__classdict__" : Str)) = false := by decide) : SV Z (.Return (some (.Name x p)) pos) (mRetO i) := by
  refine ⟨tRet (tVar i), fun X h => ps_ret (pe_var (by rw [h.N]; exact hN) (visOf h hv) hd hcd), fun g env σ I H D fl R hm k => ?_⟩
  unfold mRetO at hm
  split at hm
  · rename_i d hs
    cases hm
    obtain ⟨y, hx, a, o, rfl, h1, h2, h3, h4⟩ := R.at_ i _ hs
    have R1 : SR Z.K Z.cl g (env.set i .un) σ I H := R.reslot (s' := .un) hs (fun _ _ _ => trivial) (fun z => by cases z) (fun z => by cases z)
    have n : New g (env.set i .un) σ I H a o := ⟨h1, h3, h4, fun j s hj ht => by
      rcases set_get hj with ⟨rfl, _, rfl⟩ | ⟨ne, hj⟩
      · cases ht
      · exact fun z => R.dis i j _ s a (Ne.symm ne) hs hj rfl ht hx z, fun o' hX => (R.ex a o' hX).2.2 i _ hs rfl hx⟩
    exact ⟨.ref a, hx, k σ I H _ R1 (Same.refl _) ⟨a, o, rfl, n, h2⟩⟩
  · rename_i d hs
    cases hm
    obtain ⟨y, hx, v, rfl, r⟩ := R.at_ i _ hs
    exact ⟨v, hx, k σ I H v R (Same.refl _) r⟩
  · cases hm
def mRetN : MS := fun env => some (.ret .imm .non env)
theorem sv_retN {pos : Pos} : SV Z (.Return none pos) mRetN := ⟨_, fun _ _ => ps_retN, fun g env σ I H D fl R hm k => by cases hm; exact k σ I H _ R (Same.refl _) .non⟩
def mIfS (c : MT) (a b : MS) : MS := fun env => (c env).bind fun p => if p.1 then a p.2 else b p.2
theorem sv_if {c : Expr} {a b : List Stmt} {mc : MT} {ma mb : MS} {pos : Pos} (hc : TV Z c mc) (ha : BV Z a ma) (hb : BV Z b mb) : SV Z (.If c a b pos) (mIfS mc ma mb) := by
  obtain ⟨tc, c1, c2⟩ := hc
  obtain ⟨ta, a1, a2⟩ := ha
  obtain ⟨tb, b1, b2⟩ := hb
  refine ⟨_, fun X h => ps_if (c1 X h) (a1 X h) (b1 X h), fun g env σ I H D fl R hm k => ?_⟩
  unfold mIfS at hm
  cases e : mc env with
  | none => rw [e] at hm; cases hm
  | some p =>
    obtain ⟨b, e1⟩ := p
    rw [e] at hm
    simp only [Option.bind_some] at hm
    refine c2 g env σ I H _ b e1 R e fun I1 H1 R1 s1 => ?_
    cases b with
    | true => exact a2 g e1 σ I1 H1 D fl R1 hm (k.mono s1)
    | false => exact b2 g e1 σ I1 H1 D fl R1 hm (k.mono s1)
/-! ### stores -/
def LocZ (Z : Zc) (x : Str) : Prop := (Z.all = true ∧ Loc Z.sc x) ∨ Z.sc.names.lookup x = some .local
theorem locOf {X : Cx} {x : Str} (h : InF Z X) (hv : LocZ Z x) : Loc X.env.scope x ∧ (X.fn x = true ∨ X.env.scope.names.lookup x = some .local) := by
  rw [h.sc]
  rcases hv with ⟨h1, h2⟩ | h1
  · exact ⟨h2, .inl (h.fn h1 x)⟩
  · exact ⟨.inl h1, .inr h1⟩
theorem lt_of_get {α : Type} {l : List α} {i : Nat} {x : α} (h : l[i]? = some x) : i < l.length := (List.getElem?_eq_some_iff.mp h).1
def mAsg (i : Nat) (a : ME) : MS := fun env => (a env).bind fun p => if i < p.2.length then some (.nx (p.2.set i (.imm p.1))) else none
def mAsgF (i : Nat) (a : ME) : MS := fun env => (a env).bind fun p => if i < p.2.length then some (.nx (p.2.set i (.own p.1))) else none
theorem sv_asg {i : Nat} {x : Str} {e : Expr} {m : ME} {p pos : Pos} (hN : Z.N[i]? = some x) (hv : LocZ Z x) (h : EV Z e m) (hs : ∀ env, swapsWithSole [.Name x p] e pos.line env = pure false := by intro _; rfl) (hw : ∀ env, swappedStores [.Name x p] e env = pure none := by intro _; rfl)
    (h1 : ∀ env, (assignEach [.Name x p] env).map (·.2) = [assign (.Name x p) env] := by intro _; rfl) : SV Z (.Assign [.Name x p] e pos) (mAsg i m) := by
  obtain ⟨t, q1, q2⟩ := h
  refine ⟨_, fun X k => ps_asg (q1 X k) (pg_name k.nd (by rw [k.N]; exact hN) (locOf k hv).1 (locOf k hv).2) (hs _) (hw _) (h1 _), fun g env σ I H D fl R hm k => ?_⟩
  unfold mAsg at hm
  cases e1 : m env with
  | none => rw [e1] at hm; cases hm
  | some r =>
    rw [e1] at hm
    simp only [Option.bind_some] at hm
    split at hm
    · rename_i hi
      cases hm
      exact q2 g env σ I H _ r.1 r.2 R e1 fun v I1 H1 R1 s1 rv => k _ I1 H1 (R1.setImm (by rw [← R1.len]; exact hi) rv) s1
    · cases hm
theorem sv_asgF {i : Nat} {x : Str} {e : Expr} {m : ME} {p pos : Pos} (hN : Z.N[i]? = some x) (hv : LocZ Z x) (h : EF Z e m) (hs : ∀ env, swapsWithSole [.Name x p] e pos.line env = pure false := by intro _; rfl) (hw : ∀ env, swappedStores [.Name x p] e env = pure none := by intro _; rfl)
    (h1 : ∀ env, (assignEach [.Name x p] env).map (·.2) = [assign (.Name x p) env] := by intro _; rfl) : SV Z (.Assign [.Name x p] e pos) (mAsgF i m) := by
  obtain ⟨t, q1, q2⟩ := h
  refine ⟨_, fun X k => ps_asg (q1 X k) (pg_name k.nd (by rw [k.N]; exact hN) (locOf k hv).1 (locOf k hv).2) (hs _) (hw _) (h1 _), fun g env σ I H D fl R hm k => ?_⟩
  unfold mAsgF at hm
  cases e1 : m env with
  | none => rw [e1] at hm; cases hm
  | some r =>
    rw [e1] at hm
    simp only [Option.bind_some] at hm
    split at hm
    · rename_i hi
      cases hm
      exact q2 g env σ I H _ r.1 r.2 R e1 fun a o I1 H1 R1 s1 n ro => k _ I1 H1 (R1.setOwn (by rw [← R1.len]; exact hi) n ro) s1
    · cases hm
/-- x += e (numbers) -/
def mAug (f : Int → Int → Int) (i : Nat) (a : ME) : MS := fun env => match env[i]? with
  | some (.imm (.int x)) => (a env).bind fun p => match p.1 with
    | .int y => if i < p.2.length then some (.nx (p.2.set i (.imm (.int (f x y))))) else none
    | _ => none
  | _ => none
theorem sv_aug {i : Nat} {x : Str} {e : Expr} {m : ME} {op : Operator} {f : Int → Int → Int} {p pos : Pos} (ho : ∀ X, InF Z X → PIp X op (ipI f)) (hN : Z.N[i]? = some x) (hv : LocZ Z x) (h : EV Z e m) : SV Z (.AugAssign (.Name x p) op e pos) (mAug f i m) := by
  obtain ⟨t, q1, q2⟩ := h
  refine ⟨_, fun X k => ps_aug k.nd (by rw [k.N]; exact hN) (locOf k hv).1 (q1 X k) (ho X k) (locOf k hv).2, fun g env σ I H D fl R hm k => ?_⟩
  unfold mAug at hm
  split at hm
  · rename_i z hs
    obtain ⟨y, hy, v, rfl, rv⟩ := R.at_ i _ hs
    cases rv.int_inv
    cases e1 : m env with
    | none => rw [e1] at hm; cases hm
    | some r =>
      obtain ⟨d, en⟩ := r
      rw [e1] at hm
      simp only [Option.bind_some] at hm
      cases d <;> first | cases hm | skip
      dsimp only at hm
      split at hm
      · rename_i hi
        cases hm
        refine ⟨_, hy, q2 g env σ I H _ _ _ R e1 fun w I1 H1 R1 s1 rw' => ⟨_, _, rfl, rw'.int_inv, k _ I1 H1 (R1.setImm (by rw [← R1.len]; exact hi) .int) s1⟩⟩
      · cases hm
  · cases hm
/-- xs.append(e), xs an own list -/
def ownL (env : En) (i : Nat) : Option (List D) := (env[i]?).bind fun s => (s.own?).bind fun d => match d with
  | .lst xs => some xs
  | _ => none
theorem ownL_inv {env : En} {i : Nat} {xs : List D} (h : ownL env i = some xs) : ∃ s, env[i]? = some s ∧ s.own? = some (.lst xs) := by
  unfold ownL at h
  cases e2 : env[i]? with
  | none => rw [e2] at h; cases h
  | some s =>
    rw [e2] at h; simp only [Option.bind_some] at h
    cases e3 : s.own? with
    | none => rw [e3] at h; cases h
    | some d =>
      rw [e3] at h; simp only [Option.bind_some] at h
      cases d <;> first | (cases h; exact ⟨s, rfl, e3⟩) | cases h
theorem own_list {g : G} {env : En} {σ : St} {I H : Hp} {i : Nat} {xs : List D} (R : SR Z.K Z.cl g env σ I H) (h : ownL env i = some xs) :
    ∃ s a vs, env[i]? = some s ∧ s.own? = some (.lst xs) ∧ σ[i]? = some (some (.ref a)) ∧ H a = some (.lst vs) ∧ Reps Z.K Z.cl I xs vs := by
  obtain ⟨s, h1, h2⟩ := ownL_inv h
  obtain ⟨a, o, h3, h4, h5, h6⟩ := own_at R h1 h2
  obtain ⟨vs, rfl, r⟩ := h5.lst_inv
  exact ⟨s, a, vs, h1, h2, h3, h4, r⟩
def putS (env : En) (i : Nat) (d : D) : En := match env[i]? with
  | some s => env.set i (s.put d)
  | none => env
def mApp (i : Nat) (a : ME) : MS := fun env => (ownL env i).bind fun _ => (a env).bind fun p => (ownL p.2 i).bind fun xs =>
  if xs.length < sizeLine then some (.nx (putS p.2 i (.lst (xs ++ [p.1])))) else none
theorem rd_at {g : G} {env : En} {σ : St} {I H : Hp} {i : Nat} {d : D} (R : SR Z.K Z.cl g env σ I H) (h : env[i]?.bind Sl.rd = some d) : ∃ v, σ[i]? = some (some v) := by
  cases e : env[i]? with
  | none => rw [e] at h; cases h
  | some s =>
    rw [e] at h
    obtain ⟨x, hx, q⟩ := R.at_ i _ e
    cases s with
    | un => cases h
    | imm d => obtain ⟨v, rfl, _⟩ := q; exact ⟨_, hx⟩
    | bor d => obtain ⟨v, rfl, _⟩ := q; exact ⟨_, hx⟩
    | own d => obtain ⟨v, o, rfl, _⟩ := q; exact ⟨_, hx⟩
    | lck d => obtain ⟨v, o, rfl, _⟩ := q; exact ⟨_, hx⟩
    | io j d => obtain ⟨v, o, rfl, _⟩ := q; exact ⟨_, hx⟩
theorem sv_append {i : Nat} {x : Str} {e : Expr} {m : ME} {p p1 cpos pos : Pos} (hN : Z.N[i]? = some x) (hv : Vis Z.sc x) (h : EV Z e m) (hd : (x == ("__debug__" : Str)) = false := by decide) (hcd : (x == ("__classdict__" : Str)) = false := by decide)
    (hbase : ∀ env, attributeBase (.Name x p) "append" env (eval (.Name x p) env) = eval (.Name x p) env := by intro _; rfl)
    (hfew : ∀ env, ((backTo cpos (starEach [e] env)).all (fun x => !x.1) && (backToKw cpos (keywordEach [] env)).all (fun x => x.1.isSome)
      && decide (([e] : List Expr).length + ([] : List Keyword).length + (if ([] : List Keyword).isEmpty then 0 else 1) < 30)) = true := by intro _; rfl)
    (hline : (p1.endLine == cpos.line) = true := by rfl) (hs : ∀ env, starEach [e] env = (false, eval e env) :: starEach [] env := by intro _; rfl) (hplain : ∀ env, (backTo cpos (starEach [] env)).any (·.1) = false := by intro _; rfl)
    (hsw : ∀ env, swapsWith (.Call (.Attribute (.Name x p) "append" p1) [e] [] cpos) none pos.line env = pure false := by intro _; rfl) :
    SV Z (.Expr (.Call (.Attribute (.Name x p) "append" p1) [e] [] cpos) pos) (mApp i m) := by
  obtain ⟨t, q1, q2⟩ := h
  refine ⟨tDrop (tBM Z.K "list" rAppend (tVar i) (tCons t tNil)), fun X k => ?_, fun g env σ I H D fl R hm k => ?_⟩
  · have q := pe_bm (X := X) (name := "append") (apos := p1) (cpos := cpos) PySem.F.plainAttrs_list PySem.F.slot_list_append PySem.F.type_list_append mt_append (pe_var (by rw [k.N]; exact hN) (visOf k hv) hd hcd) (pa_cons (q1 X k) pa_nil (hs _)) (hbase _) (hfew _) hline (hs _) (hplain _)
    rw [k.K] at q
    exact ps_expr q (hsw _)
  · unfold mApp at hm
    cases e0 : ownL env i with
    | none => rw [e0] at hm; cases hm
    | some d0 =>
      rw [e0] at hm; simp only [Option.bind_some] at hm
      cases e1 : m env with
      | none => rw [e1] at hm; cases hm
      | some r =>
        obtain ⟨y, en⟩ := r
        rw [e1] at hm; simp only [Option.bind_some] at hm
        cases e2 : ownL en i with
        | none => rw [e2] at hm; cases hm
        | some xs =>
          rw [e2] at hm; simp only [Option.bind_some] at hm
          split at hm
          · rename_i hlen
            cases hm
            obtain ⟨s0, a0, vs0, h1, h2, h3, h4, _⟩ := own_list R e0
            refine ⟨.ref a0, h3, .inl ⟨rfl, _, SqL.of h4⟩, ?_⟩
            refine q2 g env σ I H _ y en R e1 fun v I1 H1 R1 s1 rv => ?_
            obtain ⟨s, a, vs, h5, h6, h7, h8, h9⟩ := own_list R1 e2
            rw [h3] at h7
            cases h7
            refine ⟨a0, vs, v, rfl, rfl, h8, by rw [← h9.length]; exact hlen, ?_⟩
            have R2 := R1.mutate h5 h6 h3 (.lst (h9.append (.cons rv .nil)))
            have e5 : putS en i (.lst (xs ++ [y])) = en.set i (s.put (.lst (xs ++ [y]))) := by unfold putS; rw [h5]
            rw [e5] at k
            exact k σ I1 _ R2 s1
          · cases hm
/-- xs[j] = e, xs an own list -/
def mSetI (i : Nat) (e j : ME) : MS := fun env => (e env).bind fun p => (ownL p.2 i).bind fun _ => (j p.2).bind fun q => (ownL q.2 i).bind fun xs => match q.1 with
  | .int n => (ixN xs.length n).map fun c => .nx (putS q.2 i (.lst (xs.set c p.1)))
  | _ => none
theorem sv_setI {i : Nat} {x : Str} {e j : Expr} {me mj : ME} {p p1 pos : Pos} (hN : Z.N[i]? = some x) (hv : Vis Z.sc x) (he : EV Z e me) (hj : EV Z j mj) (hd : (x == ("__debug__" : Str)) = false := by decide) (hcd : (x == ("__classdict__" : Str)) = false := by decide)
    (hs : ∀ env, swapsWithSole [.Subscript (.Name x p) j p1] e pos.line env = pure false := by intro _; rfl) (hw : ∀ env, swappedStores [.Subscript (.Name x p) j p1] e env = pure none := by intro _; rfl)
    (h1 : ∀ env, (assignEach [.Subscript (.Name x p) j p1] env).map (·.2) = [assign (.Subscript (.Name x p) j p1) env] := by intro _; rfl)
    (ha : ∀ env v, assign (.Subscript (.Name x p) j p1) env v = (do
      let ov ← holding [v] (eval (.Name x p) env)
      let iv ← holding [v, ov] (eval j env)
      standAt p1
      holding [v, ov, iv] (setItem ov iv v)
      release [v, ov, iv] []) := by intro _ _; rfl) :
    SV Z (.Assign [.Subscript (.Name x p) j p1] e pos) (mSetI i me mj) := by
  obtain ⟨t, q1, q2⟩ := he
  obtain ⟨u, j1, j2⟩ := hj
  refine ⟨tAsg t (gSub (tVar i) u rSetL), fun X k => ps_asg (q1 X k) (pg_sub (pe_var (by rw [k.N]; exact hN) (visOf k hv) hd hcd) (j1 X k) set_list (ha _)) (hs _) (hw _) (h1 _), fun g env σ I H D fl R hm k => ?_⟩
  unfold mSetI at hm
  cases e1 : me env with
  | none => rw [e1] at hm; cases hm
  | some r =>
    obtain ⟨y, en⟩ := r
    rw [e1] at hm; simp only [Option.bind_some] at hm
    cases e2 : ownL en i with
    | none => rw [e2] at hm; cases hm
    | some xs0 =>
      rw [e2] at hm; simp only [Option.bind_some] at hm
      cases e3 : mj en with
      | none => rw [e3] at hm; cases hm
      | some r =>
        obtain ⟨n, en2⟩ := r
        rw [e3] at hm; simp only [Option.bind_some] at hm
        cases e4 : ownL en2 i with
        | none => rw [e4] at hm; cases hm
        | some xs =>
          rw [e4] at hm; simp only [Option.bind_some] at hm
          cases n <;> first | cases hm | skip
          rename_i n
          dsimp only at hm
          cases e5 : ixN xs.length n with
          | none => rw [e5] at hm; cases hm
          | some c =>
            rw [e5] at hm; cases hm
            refine q2 g env σ I H _ y en R e1 fun v I1 H1 R1 s1 rv => ?_
            obtain ⟨s0, a0, vs0, h1, h2, h3, h4, _⟩ := own_list R1 e2
            refine ⟨.ref a0, h3, ?_⟩
            refine j2 g en σ I1 H1 _ _ en2 R1 e3 fun w I2 H2 R2 s2 rw' => ?_
            obtain ⟨s, a, vs, h5, h6, h7, h8, h9⟩ := own_list R2 e4
            rw [h3] at h7
            cases h7
            refine ⟨a0, vs, n, c, rfl, rw'.int_inv, h8, by rw [← h9.length]; exact e5, ?_⟩
            have R3 := R2.mutate h5 h6 h3 (.lst (Reps.set c (rv.mono s2) h9))
            have e6 : putS en2 i (.lst (xs.set c y)) = en2.set i (s.put (.lst (xs.set c y))) := by unfold putS; rw [h5]
            dsimp only at k
            rw [e6] at k
            exact k σ I2 _ R3 (s1.trans s2)
end
end Q
namespace Q
open PySem L2
section
variable {Z : Zc}
/-! ### targets -/
theorem wipe_set {σ : St} {i : Nat} {x : Option V} : ∀ {vs : List Nat}, i ∈ vs → wipe (σ.set i x) vs = wipe σ vs
  | [], h => by cases h
  | v :: vs, h => by
    show (wipe (σ.set i x) vs).set v none = (wipe σ vs).set v none
    by_cases e : i ∈ vs
    · rw [wipe_set e]
    · have : i = v := by
        rcases List.mem_cons.mp h with h | h
        · exact h
        · exact absurd h e
      subst this
      have c : ∀ (ws : List Nat) (τ : St), i ∉ ws → wipe (τ.set i x) ws = (wipe τ ws).set i x := by
        intro ws
        induction ws with
        | nil => intro τ _; rfl
        | cons w ws ih =>
          intro τ hw
          have h1 : i ≠ w := fun z => hw (by rw [z]; exact List.mem_cons_self)
          have h2 : i ∉ ws := fun z => hw (List.mem_cons_of_mem _ z)
          show (wipe (τ.set i x) ws).set w none = ((wipe τ ws).set w none).set i x
          rw [ih τ h2, List.set_comm _ _ h1]
      rw [c vs σ e, List.set_set]
def GV (Z : Zc) (tg : Expr) (ix : List Nat) (f : D → En → Option En) : Prop := ∃ gt, (∀ X, InF Z X → PG X tg gt) ∧ ∀ (g : G) (env : En) (σ : St) (I H : Hp) (d : D) (v : V) (Q : St → Hp → Prop) (env' : En), SR Z.K Z.cl g env σ I H → Rep Z.K Z.cl I d v → f d env = some env' →
  (∀ σ', SR Z.K Z.cl g env' σ' I H → (∀ vs, (∀ i ∈ ix, i ∈ vs) → wipe σ' vs = wipe σ vs) → Q σ' H) → gt v σ H Q
def gN (i : Nat) : D → En → Option En := fun d env => if i < env.length then some (env.set i (.imm d)) else none
theorem gv_name {i : Nat} {x : Str} {p : Pos} (hN : Z.N[i]? = some x) (hv : LocZ Z x) : GV Z (.Name x p) [i] (gN i) := by
  refine ⟨gName i, fun X k => pg_name k.nd (by rw [k.N]; exact hN) (locOf k hv).1 (locOf k hv).2, fun g env σ I H d v Q env' R r h k => ?_⟩
  unfold gN at h
  split at h
  · rename_i hi
    cases h
    exact k _ (R.setImm (by rw [← R.len]; exact hi) r) fun vs hvs => wipe_set (hvs i (by simp))
  · cases h
def GVs (Z : Zc) (tgs : List Expr) (ix : List Nat) (f : List D → En → Option En) : Prop := ∃ gt, (∀ X, InF Z X → PGs X tgs gt) ∧ ∀ (g : G) (env : En) (σ : St) (I H : Hp) (ds : List D) (vs : List V) (Q : St → Hp → Prop) (env' : En), SR Z.K Z.cl g env σ I H → Reps Z.K Z.cl I ds vs → f ds env = some env' →
  (∀ σ', SR Z.K Z.cl g env' σ' I H → (∀ vs, (∀ i ∈ ix, i ∈ vs) → wipe σ' vs = wipe σ vs) → Q σ' H) → gt vs σ H Q
def gsNil : List D → En → Option En := fun ds env => match ds with
  | [] => some env
  | _ => none
def gsCons (f : D → En → Option En) (r : List D → En → Option En) : List D → En → Option En := fun ds env => match ds with
  | d :: ds => (f d env).bind fun e => r ds e
  | _ => none
theorem gvs_nil : GVs Z [] [] gsNil := by
  refine ⟨gNil, fun _ _ => pgs_nil, fun g env σ I H ds vs Q env' R r h k => ?_⟩
  unfold gsNil at h
  split at h
  · cases h; cases r; exact ⟨rfl, k σ R fun _ _ => rfl⟩
  · cases h
theorem gvs_cons {e : Expr} {es : List Expr} {i j : List Nat} {f : D → En → Option En} {r : List D → En → Option En} (h1 : GV Z e i f) (h2 : GVs Z es j r)
    (hs : ∀ env, (assignEach (e :: es) env).map (·.2) = assign e env :: (assignEach es env).map (·.2) := by intro _; rfl) : GVs Z (e :: es) (i ++ j) (gsCons f r) := by
  obtain ⟨t, a1, a2⟩ := h1
  obtain ⟨u, b1, b2⟩ := h2
  refine ⟨gCons t u, fun X k => pgs_cons (a1 X k) (b1 X k) (hs _), fun g env σ I H ds vs Q env' R rr h k => ?_⟩
  unfold gsCons at h
  split at h
  · rename_i d ds
    cases rr with
    | cons r1 r2 =>
      cases e1 : f d env with
      | none => rw [e1] at h; cases h
      | some en =>
        rw [e1] at h
        simp only [Option.bind_some] at h
        refine ⟨_, _, rfl, a2 g env σ I H d _ _ en R r1 e1 fun σ1 R1 w1 => b2 g en σ1 I H ds _ Q env' R1 r2 h fun σ2 R2 w2 => k σ2 R2 fun ws hw => ?_⟩
        rw [w2 ws (fun q hq => hw q (List.mem_append_right _ hq)), w1 ws (fun q hq => hw q (List.mem_append_left _ hq))]
  · cases h
def gT (n : Nat) (r : List D → En → Option En) : D → En → Option En := fun d env => match d with
  | .tup xs => if xs.length = n then r xs env else none
  | _ => none
theorem gv_tup {es : List Expr} {k n : Nat} {p : Pos} {ix : List Nat} {r : List D → En → Option En} (h : GVs Z es ix r)
    (hn : ∀ env, (assignEach es env).length = n := by intro _; rfl) (hst : ∀ env, (assignEach es env).findIdx? (·.1) = none := by intro _; rfl) : GV Z (.Tuple es k p) ix (gT n r) := by
  obtain ⟨t, a1, a2⟩ := h
  refine ⟨gTup Z.K n t, fun X i => by have q := pg_tup (X := X) (k := k) (pos := p) i.calm (a1 X i) (hn _) (hst _); rw [i.K] at q; exact q, fun g env σ I H d v Q env' R rr h k => ?_⟩
  unfold gT at h
  split at h
  · split at h
    · rename_i hl
      obtain ⟨a, vs, rfl, h1, h2⟩ := rr.tup_inv
      exact ⟨a, vs, rfl, SqT.mono R.sub h1, by rw [← h2.length]; exact hl, a2 g env σ I H _ vs Q env' R h2 h k⟩
    · cases h
  · cases h
/-- a, b = e -/
def mAsgG (gf : D → En → Option En) (a : ME) : MS := fun env => (a env).bind fun p => (gf p.1 p.2).map .nx
theorem sv_asgG {tg e : Expr} {m : ME} {ix : List Nat} {gf : D → En → Option En} {pos : Pos} (hg : GV Z tg ix gf) (h : EV Z e m) (hs : ∀ env, swapsWithSole [tg] e pos.line env = pure false := by intro _; rfl) (hw : ∀ env, swappedStores [tg] e env = pure none := by intro _; rfl)
    (h1 : ∀ env, (assignEach [tg] env).map (·.2) = [assign tg env] := by intro _; rfl) : SV Z (.Assign [tg] e pos) (mAsgG gf m) := by
  obtain ⟨t, q1, q2⟩ := h
  obtain ⟨u, g1, g2⟩ := hg
  refine ⟨_, fun X k => ps_asg (q1 X k) (g1 X k) (hs _) (hw _) (h1 _), fun g env σ I H D fl R hm k => ?_⟩
  unfold mAsgG at hm
  cases e1 : m env with
  | none => rw [e1] at hm; cases hm
  | some r =>
    rw [e1] at hm
    simp only [Option.bind_some] at hm
    cases e2 : gf r.1 r.2 with
    | none => rw [e2] at hm; cases hm
    | some en =>
      rw [e2] at hm; cases hm
      exact q2 g env σ I H _ r.1 r.2 R e1 fun v I1 H1 R1 s1 rv => g2 g r.2 σ I1 H1 r.1 v _ en R1 rv e2 fun σ' R' _ => k σ' I1 H1 R' s1
/-! ### what is walked -/
def WD (Z : Zc) (J : It) (ds : List D) (I : Hp) : Prop := ∃ (Gd : Hp → Prop) (Y : Nat → Hp → V → Hp → Prop), Walk J ds.length Gd Y ∧ (∀ I' H', Same I I' → Same I' H' → Gd H') ∧
  ∀ (i : Nat) (d : D) (g : G) (env : En) (σ : St) (I' H : Hp) (x : V) (H' : Hp), ds[i]? = some d → Same I I' → SR Z.K Z.cl g env σ I' H → Y i H x H' → ∃ I2, SR Z.K Z.cl g env σ I2 H' ∧ Same I' I2 ∧ Rep Z.K Z.cl I2 d x
abbrev MI := En → Option (List D × En)
def SI (Z : Zc) (wi : TI) (m : MI) : Prop := ∀ (g : G) (env : En) (σ : St) (I H : Hp) (R : It → Hp → Prop) (ds : List D) (env' : En), SR Z.K Z.cl g env σ I H → m env = some (ds, env') →
  (∀ J I' H', SR Z.K Z.cl g env' σ I' H' → Same I I' → WD Z J ds I' → R J H') → wi σ H R
def IV (Z : Zc) (tg e : Expr) (m : MI) : Prop := ∃ wi, (∀ X, InF Z X → PI X tg e wi) ∧ SI Z wi m
theorem pi_or {X : Cx} {tg e : Expr} {w1 w2 : TI} (h1 : PI X tg e w1) (h2 : PI X tg e w2) : PI X tg e (fun σ H R => w1 σ H R ∨ w2 σ H R) :=
  ⟨fun pins s σ H R I h => h.elim (h1.run pins s σ H R I) (h2.run pins s σ H R I)⟩
def signs (z : Str) : List D := z.cps.toList.map fun c => .str ⟨#[c]⟩
def D.walk? : D → Option (List D)
  | .lst xs => some xs
  | .scr xs => some xs
  | .tup xs => some xs
  | .str z => some (signs z)
  | _ => none
def iAny (a : ME) : MI := fun env => (a env).bind fun p => (p.1.walk?).map fun xs => (xs, p.2)
theorem wd_list {a : Addr} {xs : List D} {vs : List V} {I : Hp} (h : SqL Z.K I a vs) (r : Reps Z.K Z.cl I xs vs) : WD Z (Itl Z.K a) xs I := by
  refine ⟨_, _, by rw [r.length]; exact walk_list, fun I' H' s s' => (s.trans s').seq h, fun i d g env σ I' H x H' hd s R y => ?_⟩
  obtain ⟨rfl, hx⟩ := y
  obtain ⟨v, hv, rv⟩ := r.get hd
  rw [hv] at hx; cases hx
  exact ⟨I', R, Same.refl _, rv.mono s⟩
theorem wd_tup {a : Addr} {xs : List D} {vs : List V} {I : Hp} (h : SqT Z.K I a vs) (r : Reps Z.K Z.cl I xs vs) : WD Z (Itt Z.K a) xs I := by
  refine ⟨_, _, by rw [r.length]; exact walk_tup, fun I' H' s s' => SqT.mono (s.trans s') h, fun i d g env σ I' H x H' hd s R y => ?_⟩
  obtain ⟨rfl, hx⟩ := y
  obtain ⟨v, hv, rv⟩ := r.get hd
  rw [hv] at hx; cases hx
  exact ⟨I', R, Same.refl _, rv.mono s⟩
theorem wd_str {z : Str} {I : Hp} : WD Z (Its z) (signs z) I := by
  refine ⟨_, _, by unfold signs; rw [List.length_map, Array.length_toList]; exact walk_str, fun I' H' s s' => trivial, fun i d g env σ I' H x H' hd s R y => ?_⟩
  obtain ⟨rfl, c, hc, rfl⟩ := y
  unfold signs at hd
  rw [List.getElem?_map, Array.getElem?_toList, hc] at hd
  cases hd
  exact ⟨I', R, Same.refl _, .str⟩
theorem iv_any {tg e : Expr} {m : ME} (h : EV Z e m) : IV Z tg e (iAny m) := by
  obtain ⟨t, h1, h2⟩ := h
  refine ⟨fun σ H R => iList Z.K t σ H R ∨ (iTup Z.K t σ H R ∨ iStr t σ H R), fun X i => ?_, fun g env σ I H R ds env' Rr hm k => ?_⟩
  · have q1 := pi_list (X := X) (tg := tg) (h1 X i)
    have q2 := pi_tup (X := X) (tg := tg) (h1 X i)
    rw [i.K] at q1 q2
    exact pi_or q1 (pi_or q2 (pi_str (h1 X i)))
  · unfold iAny at hm
    cases e1 : m env with
    | none => rw [e1] at hm; cases hm
    | some p =>
      obtain ⟨d, en⟩ := p
      rw [e1] at hm; simp only [Option.bind_some] at hm
      cases d <;> simp only [D.walk?] at hm <;> first | cases hm | skip
      · refine .inr (.inr (h2 g env σ I H _ _ _ Rr e1 fun v I1 H1 R1 s1 rv => ⟨_, rv.str_inv, k _ I1 H1 R1 s1 wd_str⟩))
      · refine .inl (h2 g env σ I H _ _ _ Rr e1 fun v I1 H1 R1 s1 rv => ?_)
        obtain ⟨a, vs, rfl, ha, ra⟩ := rv.lst_inv
        exact ⟨a, rfl, ⟨vs, SqL.of (R1.sub _ _ ha)⟩, k _ I1 H1 R1 s1 (wd_list (SqL.of ha) ra)⟩
      · refine .inr (.inl (h2 g env σ I H _ _ _ Rr e1 fun v I1 H1 R1 s1 rv => ?_))
        obtain ⟨a, vs, rfl, ha, ra⟩ := rv.tup_inv
        exact ⟨a, rfl, ⟨vs, SqT.mono R1.sub ha⟩, k _ I1 H1 R1 s1 (wd_tup ha ra)⟩
      · refine .inl (h2 g env σ I H _ _ _ Rr e1 fun v I1 H1 R1 s1 rv => ?_)
        obtain ⟨a, vs, rfl, ha, ra⟩ := rv.scr_inv
        exact ⟨a, rfl, ⟨vs, R1.sub.seq ha⟩, k _ I1 H1 R1 s1 (wd_list ha ra)⟩
def rngD (lo : Int) (n : Nat) : List D := (List.range n).map fun i => .int (lo + (i : Nat))
theorem wd_rng {lo : Int} {n : Nat} {I : Hp} : WD Z (Itr lo n) (rngD lo n) I := by
  refine ⟨_, _, by unfold rngD; rw [List.length_map, List.length_range]; exact walk_range, fun _ _ _ _ => trivial, fun i d g env σ I' H x H' hd s R y => ?_⟩
  obtain ⟨rfl, rfl⟩ := y
  unfold rngD at hd
  rw [List.getElem?_map] at hd
  cases e : (List.range n)[i]? with
  | none => rw [e] at hd; cases hd
  | some j =>
    rw [e] at hd
    cases hd
    obtain ⟨h1, h2⟩ := List.getElem?_eq_some_iff.mp e
    rw [List.getElem_range] at h2
    subst h2
    exact ⟨I', R, Same.refl _, .int⟩
def iR1 (a : En → Option (List D × En)) : MI := fun env => (a env).bind fun p => match p.1 with
  | [.int j] => if -(2 ^ 62) ≤ j ∧ j < 2 ^ 62 then some (rngD 0 j.toNat, p.2) else none
  | _ => none
def iR2 (a : En → Option (List D × En)) : MI := fun env => (a env).bind fun p => match p.1 with
  | [.int i, .int j] => if -(2 ^ 62) ≤ i ∧ i < 2 ^ 62 ∧ -(2 ^ 62) ≤ j ∧ j < 2 ^ 62 then some (rngD i (j - i).toNat, p.2) else none
  | _ => none
theorem iv_rng1 {tg a : Expr} {m : En → Option (List D × En)} {p pos : Pos} (hg : GlZ Z "range") (hm : Z.mg "range" = none) (h : AE Z [a] m) (hs : ∀ env, starEach [a] env = [(false, eval a env)] := by intro _; rfl) : IV Z tg (.Call (.Name "range" p) [a] [] pos) (iR1 m) := by
  obtain ⟨t, h1, h2⟩ := h
  refine ⟨iRng1 t, fun X i => pi_range1 (glOf i hg) (by rw [i.mg]; exact hm) (h1 X i) (hs _), fun g env σ I H R ds env' Rr hm k => ?_⟩
  unfold iR1 at hm
  cases hes : m env with
  | none => rw [hes] at hm; cases hm
  | some es =>
    rw [hes] at hm
    simp only [Option.bind_some] at hm
    obtain ⟨es, en⟩ := es
    refine h2 g env σ I H _ es en Rr hes fun vs I1 H1 R1 s1 rs => ?_
    dsimp only at hm
    split at hm
    · split at hm
      · rename_i hb
        cases hm
        cases rs with
        | cons r1 r2 =>
          cases r2
          cases r1.int_inv
          exact ⟨_, rfl, hb.1, hb.2, k _ I1 H1 R1 s1 wd_rng⟩
      · cases hm
    · cases hm
theorem iv_rng2 {tg a b : Expr} {m : En → Option (List D × En)} {p pos : Pos} (hg : GlZ Z "range") (hm : Z.mg "range" = none) (h : AE Z [a, b] m) (hs : ∀ env, starEach [a, b] env = [(false, eval a env), (false, eval b env)] := by intro _; rfl) (hs2 : ∀ env, starEach [b] env = [(false, eval b env)] := by intro _; rfl) : IV Z tg (.Call (.Name "range" p) [a, b] [] pos) (iR2 m) := by
  obtain ⟨t, h1, h2⟩ := h
  refine ⟨iRng2 t, fun X i => pi_range2 (glOf i hg) (by rw [i.mg]; exact hm) (h1 X i) (hs _) (hs2 _), fun g env σ I H R ds env' Rr hm k => ?_⟩
  unfold iR2 at hm
  cases hes : m env with
  | none => rw [hes] at hm; cases hm
  | some es =>
    rw [hes] at hm
    simp only [Option.bind_some] at hm
    obtain ⟨es, en⟩ := es
    refine h2 g env σ I H _ es en Rr hes fun vs I1 H1 R1 s1 rs => ?_
    dsimp only at hm
    split at hm
    · split at hm
      · rename_i hb
        cases hm
        cases rs with
        | cons r1 r2 =>
          cases r2 with
          | cons r2 r3 =>
            cases r3
            cases r1.int_inv
            cases r2.int_inv
            exact ⟨_, _, rfl, hb, k _ I1 H1 R1 s1 wd_rng⟩
      · cases hm
    · cases hm
/-- a new tuple, given to all -/
theorem SR.tup {K : PySem.W.Frag} {cl : String → Option Addr} {g : G} {env : En} {σ : St} {I H : Hp} (R : SR K cl g env σ I H) {p : Addr} {ds : List D} {vs : List V} (hp : H p = none) (r : Reps K cl I ds vs) :
    SR K cl g env σ (upd I p (.tup vs)) (upd H p (.tup vs)) ∧ Same I (upd I p (.tup vs)) ∧ Rep K cl (upd I p (.tup vs)) (.tup ds) (.ref p) := by
  obtain ⟨R2, s2⟩ := (R.alloc hp _).freeze (R.new (o := .tup vs) hp)
  exact ⟨R2, s2, .tup (SqT.of upd_same) (r.mono s2)⟩
def enumD (k : Nat) : List D → List D
  | [] => []
  | d :: ds => .tup [.int (k : Int), d] :: enumD (k + 1) ds
theorem enumD_length : ∀ (ds : List D) (k : Nat), (enumD k ds).length = ds.length
  | [], _ => rfl
  | d :: ds, k => by simp [enumD, enumD_length ds]
theorem enumD_get : ∀ (ds : List D) (k i : Nat) (e : D), (enumD k ds)[i]? = some e → ∃ d, ds[i]? = some d ∧ e = .tup [.int ((k + i : Nat) : Int), d]
  | [], k, i, e, h => by simp [enumD] at h
  | d :: ds, k, 0, e, h => by simp [enumD] at h; exact ⟨d, rfl, h.symm⟩
  | d :: ds, k, i + 1, e, h => by
    obtain ⟨d', h1, h2⟩ := enumD_get ds (k + 1) i e (by simpa [enumD] using h)
    refine ⟨d', by simpa using h1, ?_⟩
    rw [h2]
    have : k + 1 + i = k + (i + 1) := by omega
    rw [this]
def iEn (a : En → Option (List D × En)) : MI := fun env => (a env).bind fun p => match p.1 with
  | [.lst xs] => some (enumD 0 xs, p.2)
  | _ => none
theorem iv_enum {a : Expr} {m : En → Option (List D × En)} {elts : List Expr} {kk : Nat} {p pos tpos : Pos} (hg : GlZ Z "enumerate") (hm : Z.mg "enumerate" = none) (h : AE Z [a] m) (hs : ∀ env, starEach [a] env = [(false, eval a env)] := by intro _; rfl) : IV Z (.Tuple elts kk tpos) (.Call (.Name "enumerate" p) [a] [] pos) (iEn m) := by
  obtain ⟨t, h1, h2⟩ := h
  refine ⟨iEnum Z.K t, fun X i => by have q := pi_enum (X := X) (p := p) (pos := pos) (tpos := tpos) (elts := elts) (kk := kk) (glOf i hg) (by rw [i.mg]; exact hm) (h1 X i) (hs _); rw [i.K] at q; exact q, fun g env σ I H R ds env' Rr hm k => ?_⟩
  unfold iEn at hm
  cases hes : m env with
  | none => rw [hes] at hm; cases hm
  | some es =>
    rw [hes] at hm
    simp only [Option.bind_some] at hm
    obtain ⟨es, en⟩ := es
    refine h2 g env σ I H _ es en Rr hes fun vs I1 H1 R1 s1 rs => ?_
    dsimp only at hm
    split at hm
    · rename_i xs
      cases hm
      cases rs with
      | cons r1 r2 =>
        cases r2
        obtain ⟨a, us, rfl, ha, ra⟩ := r1.lst_inv
        refine ⟨a, us, rfl, SqL.of (R1.sub _ _ ha), k _ I1 H1 R1 s1 ?_⟩
        refine ⟨_, _, by have q := walk_enum (K := Z.K) (a := a) (xs := us); rw [← ra.length, ← enumD_length xs 0] at q; exact q, fun I' H' s s' => SqL.of (s' _ _ (s _ _ ha)), fun i d g env σ I' H x H' hd s R y => ?_⟩
        obtain ⟨T, x1, y1, rfl, hT, rfl, hx1, hy1⟩ := y
        obtain ⟨d', hd', rfl⟩ := enumD_get _ _ _ _ hd
        obtain ⟨v, hv, rv⟩ := ra.get hd'
        dsimp only at hx1 hy1
        cases hx1
        rw [hv] at hy1; cases hy1
        obtain ⟨R2, s2, r2⟩ := R.tup (ds := [.int ((0 + i : Nat) : Int), d']) hT (.cons (by simp only [Nat.zero_add]; exact .int) (.cons (rv.mono s) .nil))
        exact ⟨_, R2, s2, r2⟩
    · cases hm
def zipD : List D → List D → List D
  | a :: as, b :: bs => .tup [a, b] :: zipD as bs
  | _, _ => []
theorem zipD_length : ∀ (as bs : List D), (zipD as bs).length = min as.length bs.length
  | [], bs => by simp [zipD]
  | a :: as, [] => by simp [zipD]
  | a :: as, b :: bs => by simp [zipD, zipD_length as bs]
theorem zipD_get : ∀ (as bs : List D) (i : Nat) (e : D), (zipD as bs)[i]? = some e → ∃ a b, as[i]? = some a ∧ bs[i]? = some b ∧ e = .tup [a, b]
  | [], bs, i, e, h => by simp [zipD] at h
  | a :: as, [], i, e, h => by simp [zipD] at h
  | a :: as, b :: bs, 0, e, h => by simp [zipD] at h; exact ⟨a, b, rfl, rfl, h.symm⟩
  | a :: as, b :: bs, i + 1, e, h => by
    obtain ⟨x, y, h1, h2, h3⟩ := zipD_get as bs i e (by simpa [zipD] using h)
    exact ⟨x, y, by simpa using h1, by simpa using h2, h3⟩
def iZp (a : En → Option (List D × En)) : MI := fun env => (a env).bind fun p => match p.1 with
  | [.lst xs, .lst ys] => some (zipD xs ys, p.2)
  | _ => none
theorem iv_zip {a b : Expr} {m : En → Option (List D × En)} {elts : List Expr} {kk : Nat} {p pos tpos : Pos} (hg : GlZ Z "zip") (hm : Z.mg "zip" = none) (h : AE Z [a, b] m) (hs : ∀ env, starEach [a, b] env = (false, eval a env) :: starEach [b] env := by intro _; rfl) (hpl : ∀ env, (backTo pos (starEach [b] env)).any (·.1) = false := by intro _; rfl) : IV Z (.Tuple elts kk tpos) (.Call (.Name "zip" p) [a, b] [] pos) (iZp m) := by
  obtain ⟨t, h1, h2⟩ := h
  refine ⟨iZip Z.K t, fun X i => by have q := pi_zip (X := X) (p := p) (pos := pos) (tpos := tpos) (elts := elts) (kk := kk) (glOf i hg) (by rw [i.mg]; exact hm) (h1 X i) (hs _) (hpl _); rw [i.K] at q; exact q, fun g env σ I H R ds env' Rr hm k => ?_⟩
  unfold iZp at hm
  cases hes : m env with
  | none => rw [hes] at hm; cases hm
  | some es =>
    rw [hes] at hm
    simp only [Option.bind_some] at hm
    obtain ⟨es, en⟩ := es
    refine h2 g env σ I H _ es en Rr hes fun vs I1 H1 R1 s1 rs => ?_
    dsimp only at hm
    split at hm
    · rename_i xs ys
      cases hm
      cases rs with
      | cons r1 r2 =>
        cases r2 with
        | cons r2 r3 =>
          cases r3
          obtain ⟨a, us, rfl, ha, ra⟩ := r1.lst_inv
          obtain ⟨b, ws, rfl, hb, rb⟩ := r2.lst_inv
          refine ⟨a, b, us, ws, rfl, SqL.of (R1.sub _ _ ha), SqL.of (R1.sub _ _ hb), k _ I1 H1 R1 s1 ?_⟩
          refine ⟨_, _, walk_zip (by rw [zipD_length, ra.length, rb.length]), fun I' H' s s' => ⟨SqL.of (s' _ _ (s _ _ ha)), SqL.of (s' _ _ (s _ _ hb))⟩, fun i d g env σ I' H x H' hd s R y => ?_⟩
          obtain ⟨T, x1, y1, rfl, hT, rfl, hx1, hy1⟩ := y
          obtain ⟨d1, d2, hd1, hd2, rfl⟩ := zipD_get _ _ _ _ hd
          obtain ⟨v, hv, rv⟩ := ra.get hd1
          obtain ⟨w, hw, rw'⟩ := rb.get hd2
          dsimp only at hx1 hy1
          rw [hv] at hx1; cases hx1
          rw [hw] at hy1; cases hy1
          obtain ⟨R2, s2, r2⟩ := R.tup (ds := [d1, d2]) hT (.cons (rv.mono s) (.cons (rw'.mono s) .nil))
          exact ⟨_, R2, s2, r2⟩
    · cases hm
/-! ### for, while -/
def mFor (gf : D → En → Option En) (body : MS) : List D → MS
  | [], env => some (.nx env)
  | d :: ds, env => (gf d env).bind fun e => (body e).bind fun fl => match fl with
    | .nx e' => mFor gf body ds e'
    | .ct e' => mFor gf body ds e'
    | .bk e' => some (.nx e')
    | .ret md r e' => some (.ret md r e')
def mForS (it : MI) (gf : D → En → Option En) (body : MS) : MS := fun env => (it env).bind fun p => mFor gf body p.1 p.2
theorem sv_for {tg e : Expr} {b : List Stmt} {mi : MI} {ix : List Nat} {gf : D → En → Option En} {mb : MS} {pos : Pos} (hi : IV Z tg e mi) (hg : GV Z tg ix gf) (hb : BV Z b mb) (hs : ∀ env x, foldedSetIterable e env x = pure x := by intro _ _; rfl) : SV Z (.For tg e b [] pos) (mForS mi gf mb) := by
  obtain ⟨wi, i1, i2⟩ := hi
  obtain ⟨gt, g1, g2⟩ := hg
  obtain ⟨tb, b1, b2⟩ := hb
  refine ⟨tFor wi gt tb, fun X k => ps_for k.own k.calm (i1 X k) (g1 X k) (b1 X k) (hs _), fun g env σ I H D fl R hm k => ?_⟩
  unfold mForS at hm
  cases e1 : mi env with
  | none => rw [e1] at hm; cases hm
  | some p =>
    obtain ⟨ds, en⟩ := p
    rw [e1] at hm; simp only [Option.bind_some] at hm
    refine i2 g env σ I H _ ds en R e1 fun J I1 H1 R1 s1 wd => ?_
    obtain ⟨Gd, Y, hw, hgd, hy⟩ := wd
    refine for_it hw (fun i σ' H' => ∃ env' I', SR Z.K Z.cl g env' σ' I' H' ∧ Same I1 I' ∧ mFor gf mb (ds.drop i) env' = some fl) ⟨en, I1, R1, Same.refl _, hm⟩ (fun i σ' H' _ ⟨env', I', R', s', _⟩ => hgd I' H' s' R'.sub) ?_ ?_
    · rintro i x σ2 H2 H3 hlt ⟨env2, I2, R2, s2, hm2⟩ hyld
      have hd : ds[i]? = some ds[i] := List.getElem?_eq_getElem hlt
      have hdrop : ds.drop i = ds[i] :: ds.drop (i + 1) := List.drop_eq_getElem_cons hlt
      rw [hdrop] at hm2
      obtain ⟨I3, R3, s3, r3⟩ := hy i ds[i] g env2 σ2 I2 H2 x H3 hd s2 R2 hyld
      unfold mFor at hm2
      cases e2 : gf ds[i] env2 with
      | none => rw [e2] at hm2; cases hm2
      | some en2 =>
        rw [e2] at hm2; simp only [Option.bind_some] at hm2
        refine g2 g env2 σ2 I3 H3 ds[i] x _ en2 R3 r3 e2 fun σ4 R4 _ => ?_
        cases e3 : mb en2 with
        | none => rw [e3] at hm2; cases hm2
        | some f =>
          rw [e3] at hm2; simp only [Option.bind_some] at hm2
          refine b2 g en2 σ4 I3 H3 _ f R4 e3 ?_
          cases f with
          | nx e => exact fun σ5 I5 H5 R5 s5 => ⟨e, I5, R5, (s2.trans s3).trans s5, hm2⟩
          | ct e => exact fun σ5 I5 H5 R5 s5 => ⟨e, I5, R5, (s2.trans s3).trans s5, hm2⟩
          | bk e => cases hm2; exact fun σ5 I5 H5 R5 s5 => k σ5 I5 H5 R5 (s1.trans ((s2.trans s3).trans s5))
          | ret md r e => cases hm2; exact fun σ5 I5 H5 v R5 s5 hr => k σ5 I5 H5 v R5 (s1.trans ((s2.trans s3).trans s5)) hr
    · rintro σ2 H2 ⟨env2, I2, R2, s2, hm2⟩
      rw [List.drop_length] at hm2
      cases hm2
      exact k σ2 I2 H2 R2 (s1.trans s2)
def mWhile (c : MT) (b : MS) : Nat → MS
  | 0, _ => none
  | n + 1, env => (c env).bind fun p => if p.1 then (b p.2).bind fun fl => match fl with
      | .nx e' => mWhile c b n e'
      | .ct e' => mWhile c b n e'
      | .bk e' => some (.nx e')
      | .ret md r e' => some (.ret md r e')
    else some (.nx p.2)
def mWh (fuel : En → Nat) (c : MT) (b : MS) : MS := fun env => mWhile c b (fuel env) env
theorem sv_while (fuel : En → Nat) {c : Expr} {b : List Stmt} {mc : MT} {mb : MS} {pos : Pos} (hc : TV Z c mc) (hb : BV Z b mb) : SV Z (.While c b [] pos) (mWh fuel mc mb) := by
  obtain ⟨tc, c1, c2⟩ := hc
  obtain ⟨tb, b1, b2⟩ := hb
  refine ⟨tWhile tc tb, fun X k => ps_while k.own (c1 X k) (b1 X k), fun g env σ I H D fl R hm k => ?_⟩
  refine ⟨fun m σ' H' => ∃ env' I', SR Z.K Z.cl g env' σ' I' H' ∧ Same I I' ∧ mWhile mc mb m env' = some fl, ⟨fuel env, env, I, R, Same.refl _, hm⟩, ?_⟩
  rintro m σ2 H2 ⟨env2, I2, R2, s2, hm2⟩
  cases m with
  | zero => cases hm2
  | succ m =>
    unfold mWhile at hm2
    cases e1 : mc env2 with
    | none => rw [e1] at hm2; cases hm2
    | some p =>
      obtain ⟨bb, en⟩ := p
      rw [e1] at hm2; simp only [Option.bind_some] at hm2
      refine c2 g env2 σ2 I2 H2 _ bb en R2 e1 fun I3 H3 R3 s3 => ?_
      cases bb with
      | false => cases hm2; exact k σ2 I3 H3 R3 (s2.trans s3)
      | true =>
        simp only [if_true] at hm2 ⊢
        cases e3 : mb en with
        | none => rw [e3] at hm2; cases hm2
        | some f =>
          rw [e3] at hm2; simp only [Option.bind_some] at hm2
          refine ⟨fun σ' H' => ∃ env' I', SR Z.K Z.cl g env' σ' I' H' ∧ Same I I' ∧ mWhile mc mb m env' = some fl, fun σ' H' h => ⟨m, Nat.lt_succ_self m, h⟩, ?_⟩
          refine b2 g en σ2 I3 H3 _ f R3 e3 ?_
          cases f with
          | nx e => exact fun σ5 I5 H5 R5 s5 => ⟨e, I5, R5, (s2.trans s3).trans s5, hm2⟩
          | ct e => exact fun σ5 I5 H5 R5 s5 => ⟨e, I5, R5, (s2.trans s3).trans s5, hm2⟩
          | bk e => cases hm2; exact fun σ5 I5 H5 R5 s5 => k σ5 I5 H5 R5 ((s2.trans s3).trans s5)
          | ret md r e => cases hm2; exact fun σ5 I5 H5 v R5 s5 hr => k σ5 I5 H5 v R5 ((s2.trans s3).trans s5) hr
end
end Q
namespace Q
open PySem L2
section
variable {Z : Zc}
/-! ## Comprehensions -/
def ZB (Z : Zc) (scope : Scope) : Zc := { Z with sc := relS scope Z.sc, all := false }
theorem inB {X : Cx} {scope : Scope} (h : InF Z X) (s : Shared) (H : Hp) (C : Addr) (cl : List (Str × Addr)) (fp : List Addr) : InF (ZB Z scope) (X.blk s H scope (compEnvC scope cl C X.env) fp) :=
  ⟨h.prog, h.w, h.K, h.mg, h.base, h.N, (by show relS scope X.env.scope = relS scope Z.sc; rw [h.sc]), h.calm, h.room, h.nd, (fun e => Bool.noConfusion (show false = true from e)), PassesOwn.never, h.gd⟩
/-- the ifs of a comprehension -/
def CV (Z : Zc) (es : List Expr) (m : MT) : Prop := ∃ t, (∀ X, InF Z X → PTs X es t) ∧ ST Z t m
def mYes : MT := fun env => some (true, env)
theorem cv_nil : CV Z [] mYes := ⟨tYes, fun _ _ => pts_nil, fun g env σ I H Q b env' R hm k => by cases hm; exact k I H R (Same.refl _)⟩
theorem cv_one {e : Expr} {m : MT} (h : TV Z e m) : CV Z [e] m := let ⟨t, h1, h2⟩ := h; ⟨t, fun X i => pts_one (h1 X i), h2⟩
def wipeE (env : En) : List Nat → En
  | [] => env
  | v :: vs => (wipeE env vs).set v .un
theorem SR.unset {K : PySem.W.Frag} {cl : String → Option Addr} {g : G} {env : En} {σ : St} {I H : Hp} (R : SR K cl g env σ I H) (i : Nat) (x : Option V) : SR K cl g (env.set i .un) (σ.set i x) I H := by
  by_cases h : i < σ.length
  · exact R.setUn h
  · have h2 : ¬ i < env.length := by rw [R.len]; exact h
    rw [List.set_eq_of_length_le (by omega), List.set_eq_of_length_le (by omega)]
    exact R
theorem SR.wipe {K : PySem.W.Frag} {cl : String → Option Addr} {g : G} {env : En} {σ : St} {I H : Hp} (R : SR K cl g env σ I H) : ∀ vs, SR K cl g (wipeE env vs) (wipe σ vs) I H
  | [] => R
  | v :: vs => (SR.wipe R vs).unset v none
/-- a name of the block: what it was stands still -/
def Sl.calm : Sl → Bool
  | .un => true
  | .imm _ => true
  | _ => false
def calmAt (env : En) (vs : List Nat) : Bool := vs.all fun v => match env[v]? with
  | some s => s.calm
  | none => false
def backE (e0 env : En) : List Nat → En
  | [] => env
  | v :: vs => match e0[v]? with
    | some s => backE e0 (env.set v s) vs
    | none => backE e0 env vs
theorem wipe_out {σ : St} {i : Nat} : ∀ {vs : List Nat}, i ∉ vs → (wipe σ vs)[i]? = σ[i]?
  | [], _ => rfl
  | v :: vs, h => by
    show ((wipe σ vs).set v none)[i]? = σ[i]?
    rw [List.getElem?_set_ne (fun z => h (by rw [z]; exact List.mem_cons_self)), wipe_out fun z => h (List.mem_cons_of_mem _ z)]
theorem SR.back {K : PySem.W.Frag} {cl : String → Option Addr} {g g0 : G} {e0 : En} {σ : St} {I0 H0 : Hp} (R0 : SR K cl g0 e0 σ I0 H0) :
    ∀ (vs : List Nat) {env : En} {I H : Hp}, vs.Nodup → calmAt e0 vs = true → SR K cl g env (L2.wipe σ vs) I H → Same I0 I → SR K cl g (backE e0 env vs) σ I H
  | [], env, I, H, _, _, R, _ => R
  | v :: vs, env, I, H, hnd, hc, R, s => by
    unfold calmAt at hc
    rw [List.all_cons, Bool.and_eq_true] at hc
    obtain ⟨h1, h2⟩ := hc
    obtain ⟨hv, hnd2⟩ := List.nodup_cons.mp hnd
    unfold backE
    cases e : e0[v]? with
    | none => rw [e] at h1; cases h1
    | some sl =>
      rw [e] at h1
      obtain ⟨x, hx, q⟩ := R0.at_ v sl e
      have hvl : v < σ.length := (List.getElem?_eq_some_iff.mp hx).1
      have hs : SlotOk K cl g I H sl x := by
        cases sl with
        | un => trivial
        | imm d => obtain ⟨w, rfl, r⟩ := q; exact ⟨w, rfl, r.mono s⟩
        | _ => cases h1
      have ht : sl.top = false := by cases sl <;> first | rfl | cases h1
      have R1 := R.store (i := v) (s' := sl) (x := x) (by rw [wipe_length]; exact hvl) hs (fun a _ z => by rw [ht] at z; cases z)
      have e1 : (L2.wipe σ (v :: vs)).set v x = L2.wipe σ vs := by
        show ((L2.wipe σ vs).set v none).set v x = L2.wipe σ vs
        rw [List.set_set]
        have q2 : (L2.wipe σ vs)[v]? = some x := by rw [wipe_out hv]; exact hx
        apply List.ext_getElem?
        intro j
        by_cases hj : j = v
        · subst hj; rw [List.getElem?_set_self (by rw [wipe_length]; exact hvl)]; exact q2.symm
        · rw [List.getElem?_set_ne (Ne.symm hj)]
      rw [e1] at R1
      exact SR.back R0 vs hnd2 h2 R1 s
/-- with a list beside -/
abbrev G.beside (g : G) (p : Addr) (o : HO) : G := { g with X := (p, o) :: g.X }
section
variable {K : PySem.W.Frag} {cl : String → Option Addr} {g : G} {env : En} {σ : St} {I H : Hp} {p : Addr} {o o' : HO}
theorem SR.put (R : SR K cl g env σ I H) (n : New g env σ I H p o) : SR K cl (g.beside p o) env σ I H :=
  ⟨R.sub, R.i0, R.h0, R.hi, R.oh, R.len, R.at_, R.dis, fun a u h => by
    rcases List.mem_cons.mp h with h | h
    · cases h; exact ⟨n.at_, n.i, n.no⟩
    · exact R.ex a u h, fun a u h => by
    rcases List.mem_cons.mp h with h | h
    · cases h; exact n.h0
    · exact R.ex0 a u h, R.tb⟩
theorem SR.take (hx : ∀ u, (p, u) ∉ g.X) (R : SR K cl (g.beside p o) env σ I H) : SR K cl g env σ I H ∧ New g env σ I H p o :=
  ⟨⟨R.sub, R.i0, R.h0, R.hi, R.oh, R.len, R.at_, R.dis, fun a u h => R.ex a u (List.mem_cons_of_mem _ h), fun a u h => R.ex0 a u (List.mem_cons_of_mem _ h), R.tb⟩,
   (R.ex p o List.mem_cons_self).1, (R.ex p o List.mem_cons_self).2.1, R.ex0 p o List.mem_cons_self, (R.ex p o List.mem_cons_self).2.2, hx⟩
theorem SR.exSet (hx : ∀ u, (p, u) ∉ g.X) (R : SR K cl (g.beside p o) env σ I H) : SR K cl (g.beside p o') env σ I (upd H p o') := by
  obtain ⟨h1, h2, h3⟩ := R.ex p o List.mem_cons_self
  have h4 := R.ex0 p o List.mem_cons_self
  have ne : ∀ (i : Nat) (s : Sl) (b : Addr), env[i]? = some s → s.top = true → σ[i]? = some (some (.ref b)) → b ≠ p := fun i s b q1 q2 q3 z => by subst z; exact h3 i s q1 q2 q3
  refine ⟨fun b u e => ?_, R.i0, fun b u e1 e2 e3 => ?_, R.hi, fun b hb => ?_, R.len, fun i s e => ?_, R.dis, fun b u hb => ?_, fun b u hb => ?_, fun b ht => ?_⟩
  · rw [upd_ne (fun z => by subst z; rw [h2] at e; cases e)]; exact R.sub b u e
  · rw [upd_ne (fun z => by subst z; rw [show g.H0 b = none from h4] at e1; cases e1)]; exact R.h0 b u e1 e2 e3
  · obtain ⟨⟨u, q1⟩, q2, v, q3⟩ := R.oh b hb
    have z : b ≠ p := fun z => by subst z; rw [show g.H0 b = none from h4] at q3; cases q3
    exact ⟨⟨u, by rw [upd_ne z]; exact q1⟩, q2, v, q3⟩
  · obtain ⟨x, hx, q⟩ := R.at_ i s e
    refine ⟨x, hx, ?_⟩
    cases s with
    | un => trivial
    | imm d => exact q
    | bor d => obtain ⟨b, rfl, u, q1, q2⟩ := q; exact ⟨b, rfl, u, by rw [upd_ne (ne i _ b e rfl hx)]; exact q1, q2⟩
    | own d => obtain ⟨b, u, rfl, q1, q2⟩ := q; exact ⟨b, u, rfl, by rw [upd_ne (ne i _ b e rfl hx)]; exact q1, q2⟩
    | lck d => obtain ⟨b, u, rfl, q1, q2⟩ := q; exact ⟨b, u, rfl, by rw [upd_ne (ne i _ b e rfl hx)]; exact q1, q2⟩
    | io k d => obtain ⟨b, u, rfl, q0, q1, q2⟩ := q; exact ⟨b, u, rfl, q0, by rw [upd_ne (ne i _ b e rfl hx)]; exact q1, q2⟩
  · rcases List.mem_cons.mp hb with hb | hb
    · cases hb; exact ⟨upd_same, h2, h3⟩
    · have z : b ≠ p := fun z => hx u (by rw [← z]; exact hb)
      obtain ⟨q1, q2, q3⟩ := R.ex b u (List.mem_cons_of_mem _ hb)
      exact ⟨by rw [upd_ne z]; exact q1, q2, q3⟩
  · rcases List.mem_cons.mp hb with hb | hb
    · cases hb; exact h4
    · exact R.ex0 b u (List.mem_cons_of_mem _ hb)
  · obtain ⟨t1, ⟨ps, t2, t3⟩, v, t4⟩ := R.tb b ht
    have z : b ≠ p := fun z => by subst z; rw [show g.H0 b = none from h4] at t4; cases t4
    exact ⟨t1, ⟨ps, by rw [upd_ne z]; exact t2, t3⟩, v, t4⟩
end
def lcLoop (gf : D → En → Option En) (mt : MT) (me : ME) (vs : List Nat) : List D → List D → En → Option (List D × En)
  | [], acc, env => some (acc, env)
  | d :: ds, acc, env => (gf d (wipeE env vs)).bind fun e1 => (mt e1).bind fun p =>
    if p.1 then (me p.2).bind fun q => if acc.length < sizeLine then lcLoop gf mt me vs ds (acc ++ [q.1]) q.2 else none
    else lcLoop gf mt me vs ds acc p.2
def mLc (vs : List Nat) (mi : MI) (gf : D → En → Option En) (mt : MT) (me : ME) : ME := fun env => (mi env).bind fun p => if calmAt p.2 vs = true then (lcLoop gf mt me vs p.1 [] p.2).map fun q => (.lst q.1, backE p.2 (wipeE q.2 vs) vs) else none
theorem lc_sf {wi : TI} {gt : TG} {tt : TT} {te : TE} {vs : List Nat} {mi : MI} {gf : D → En → Option En} {mt : MT} {me : ME} {ix : List Nat} {scope : Scope} (hnd : vs.Nodup) (hix : ∀ i ∈ ix, i ∈ vs) (i2 : SI Z wi mi)
    (g2 : ∀ (g : G) (env : En) (σ : St) (I H : Hp) (d : D) (v : V) (Q : St → Hp → Prop) (env' : En), SR Z.K Z.cl g env σ I H → Rep Z.K Z.cl I d v → gf d env = some env' →
      (∀ σ', SR Z.K Z.cl g env' σ' I H → (∀ vs, (∀ i ∈ ix, i ∈ vs) → wipe σ' vs = wipe σ vs) → Q σ' H) → gt v σ H Q)
    (t2 : ST Z tt mt) (e2 : SE Z te me) : SF Z (tLc wi gt tt te vs) (mLc vs mi gf mt me) := by
  intro g env σ I H Q d env' R hm k
  unfold mLc at hm
  cases e1 : mi env with
  | none => rw [e1] at hm; cases hm
  | some p =>
    obtain ⟨ds, en⟩ := p
    rw [e1] at hm; simp only [Option.bind_some] at hm
    split at hm
    · rename_i hcalm
      cases e3 : lcLoop gf mt me vs ds [] en with
      | none => rw [e3] at hm; cases hm
      | some q =>
        obtain ⟨fin, enf⟩ := q
        rw [e3] at hm; cases hm
        refine i2 g env σ I H _ ds en R e1 fun J I1 H1 R1 s1 wd L hL => ?_
        obtain ⟨Gd, Y, hw, hgd, hy⟩ := wd
        have hX : ∀ u, (L, u) ∉ g.X := (R1.new (o := .lst []) hL).x
        refine lc_it hw (fun i H' => ∃ env' I' acc av, SR Z.K Z.cl (g.beside L (.lst av)) (wipeE env' vs) (wipe σ vs) I' H' ∧ Same I1 I' ∧ Reps Z.K Z.cl I' acc av ∧ lcLoop gf mt me vs (ds.drop i) acc env' = some (fin, enf))
          ⟨en, I1, [], [], ((R1.alloc hL _).put (R1.new hL)).wipe vs, Same.refl _, .nil, e3⟩ (fun i H' _ ⟨env', I', acc, av, R', s', _⟩ => hgd I' H' s' R'.sub) ?_ ?_
        · rintro i x H2 H3 hlt ⟨env2, I2, acc, av, R2, s2, ra, hm2⟩ hyld
          have hd : ds[i]? = some ds[i] := List.getElem?_eq_getElem hlt
          have hdrop : ds.drop i = ds[i] :: ds.drop (i + 1) := List.drop_eq_getElem_cons hlt
          rw [hdrop] at hm2
          obtain ⟨I3, R3, s3, r3⟩ := hy i ds[i] _ _ _ I2 H2 x H3 hd s2 R2 hyld
          unfold lcLoop at hm2
          cases q1 : gf ds[i] (wipeE env2 vs) with
          | none => rw [q1] at hm2; cases hm2
          | some en3 =>
            rw [q1] at hm2; simp only [Option.bind_some] at hm2
            refine g2 _ _ _ I3 H3 ds[i] x _ en3 R3 r3 q1 fun σ4 R4 w4 => ?_
            have hwp : wipe σ4 vs = wipe σ vs := by
              rw [w4 vs hix]
              have ww : ∀ (ws us : List Nat) (τ : St), (∀ u ∈ us, u ∈ ws) → wipe (wipe τ us) ws = wipe τ ws := by
                intro ws us
                induction us with
                | nil => intro τ _; rfl
                | cons u us ih =>
                  intro τ hu
                  show wipe ((wipe τ us).set u none) ws = wipe τ ws
                  rw [wipe_set (hu u List.mem_cons_self), ih τ fun v hv => hu v (List.mem_cons_of_mem _ hv)]
              exact ww vs vs σ fun _ h => h
            refine ⟨hwp, ?_⟩
            cases q2 : mt en3 with
            | none => rw [q2] at hm2; cases hm2
            | some p2 =>
              obtain ⟨b, en4⟩ := p2
              rw [q2] at hm2; simp only [Option.bind_some] at hm2
              refine t2 _ _ _ I3 H3 _ b en4 R4 q2 fun I5 H5 R5 s5 => ?_
              cases b with
              | false =>
                simp only [Bool.false_eq_true, if_false] at hm2 ⊢
                have R6 := R5.wipe vs
                rw [hwp] at R6
                exact ⟨en4, I5, acc, av, R6, (s2.trans s3).trans s5, ra.mono (s3.trans s5), hm2⟩
              | true =>
                simp only [if_true] at hm2 ⊢
                cases q3 : me en4 with
                | none => rw [q3] at hm2; cases hm2
                | some p3 =>
                  obtain ⟨y, en5⟩ := p3
                  rw [q3] at hm2; simp only [Option.bind_some] at hm2
                  split at hm2
                  · rename_i hlen
                    refine e2 _ _ _ I5 H5 _ y en5 R5 q3 fun v I6 H6 R6 s6 rv => ?_
                    have ra6 := ra.mono ((s3.trans s5).trans s6)
                    refine ⟨av, (R6.ex L _ List.mem_cons_self).1, by rw [← ra.length]; exact hlen, en5, I6, acc ++ [y], av ++ [v], ?_, ((s2.trans s3).trans s5).trans s6, ra6.append (.cons rv .nil), hm2⟩
                    have R7 := (R6.exSet (o' := .lst (av ++ [v])) hX).wipe vs
                    rw [hwp] at R7
                    exact R7
                  · cases hm2
        · rintro H2 ⟨env2, I2, acc, av, R2, s2, ra, hm2⟩
          rw [List.drop_length] at hm2
          cases hm2
          have R3 := SR.back R1 vs hnd hcalm R2 s2
          obtain ⟨R4, n4⟩ := R3.take hX
          exact k L _ I2 H2 R4 (s1.trans s2) n4 (.lst ra)
    · cases hm
theorem ef_lc {elt tg iter : Expr} {ifs : List Expr} {scope : Scope} {own : List (Str × Nat)} {pos : Pos} {mi : MI} {ix : List Nat} {gf : D → En → Option En} {mt : MT} {me : ME} (hi : IV Z tg iter mi) (ok : BlkOk Z.N Z.sc scope own) (hg : GV (ZB Z scope) tg ix gf) (ht : CV (ZB Z scope) ifs mt)
    (he : EV (ZB Z scope) elt me) (hnd : (own.map (·.2)).Nodup := by decide) (hix : ∀ i ∈ ix, i ∈ own.map (·.2) := by decide) (hs : ∀ env x, foldedSetIterable iter env x = pure x := by intro _ _; rfl) : EF Z (.ListComp elt [⟨tg, iter, ifs, 0⟩] scope pos) (mLc (own.map (·.2)) mi gf mt me) := by
  obtain ⟨wi, i1, i2⟩ := hi
  obtain ⟨gt, g1, g2⟩ := hg
  obtain ⟨tt, t1, t2⟩ := ht
  obtain ⟨te, e1, e2⟩ := he
  exact ⟨_, fun X k => pe_lc k.calm k.nd (i1 X k) (by rw [k.N, k.sc]; exact ok) (fun s H C cl fp => g1 _ (inB k s H C cl fp)) (fun s H C cl fp => t1 _ (inB k s H C cl fp)) (fun s H C cl fp => e1 _ (inB k s H C cl fp)) (hs _), lc_sf (scope := scope) hnd hix i2 g2 t2 e2⟩
/-- y = [..] on one line -/
theorem sv_asgLc {i : Nat} {y : Str} {py : Pos} {elt tg iter : Expr} {ifs : List Expr} {scope : Scope} {own : List (Str × Nat)} {pos spos : Pos} {mi : MI} {ix : List Nat} {gf : D → En → Option En} {mt : MT} {me : ME} (hN : Z.N[i]? = some y) (hy : Z.sc.names.lookup y = some .local)
    (hk : Z.sc.kind = .function) (hl : (py.line == pos.line) = true := by rfl) (ha : (scope.names.any fun (n, k) => n == y && (k == .local || k == .cell)) = false := by decide +kernel)
    (hi : IV Z tg iter mi) (ok : BlkOk Z.N Z.sc scope own) (hg : GV (ZB Z scope) tg ix gf) (ht : CV (ZB Z scope) ifs mt)
    (he : EV (ZB Z scope) elt me) (hnd : (own.map (·.2)).Nodup := by decide) (hix : ∀ i ∈ ix, i ∈ own.map (·.2) := by decide) (hs : ∀ env x, foldedSetIterable iter env x = pure x := by intro _ _; rfl) :
    SV Z (.Assign [.Name y py] (.ListComp elt [⟨tg, iter, ifs, 0⟩] scope pos) spos) (mAsgF i (mLc (own.map (·.2)) mi gf mt me)) := by
  obtain ⟨wi, i1, i2⟩ := hi
  obtain ⟨gt, g1, g2⟩ := hg
  obtain ⟨tt, t1, t2⟩ := ht
  obtain ⟨te, e1, e2⟩ := he
  refine ⟨_, fun X k => ps_setLc k.calm k.nd (by rw [k.N]; exact hN) (by rw [k.sc]; exact hy) (sw_true (by rw [k.sc]; exact hk) (by rw [k.sc]; exact hy) hl ha) (i1 X k) (by rw [k.N, k.sc]; exact ok) (fun s H C cl fp => g1 _ (inB k s H C cl fp)) (fun s H C cl fp => t1 _ (inB k s H C cl fp)) (fun s H C cl fp => e1 _ (inB k s H C cl fp)) (hs _), fun g env σ I H D fl R hm k => ?_⟩
  unfold mAsgF at hm
  cases q1 : mLc (own.map (·.2)) mi gf mt me env with
  | none => rw [q1] at hm; cases hm
  | some r =>
    rw [q1] at hm
    simp only [Option.bind_some] at hm
    split at hm
    · rename_i hi
      cases hm
      exact lc_sf (scope := scope) hnd hix i2 g2 t2 e2 g env σ I H _ r.1 r.2 R q1 fun a o I1 H1 R1 s1 n ro => k _ I1 H1 (R1.setOwn (by rw [← R1.len]; exact hi) n ro) s1
    · cases hm
end
end Q
namespace Q
open PySem L2
section
variable {Z : Zc}
/-! ## A def's promise and its call -/
/-- from the arguments' slots to what is handed back -/
def spM (K : PySem.W.Frag) (cl : String → Option Addr) (N : List Str) (np : Nat) (m : MS) : Sp := fun vs H Q _ => vs.length = np ∧
  ∃ (g : G) (env : En) (I : Hp) (fl : Fl), SR K cl g env (start N vs) I H ∧ m env = some fl ∧
    (match fl with
    | .nx env' => ∀ σ' I' H', SR K cl g env' σ' I' H' → Same I I' → Q .non H'
    | .ret md d env' => ∀ σ' I' H' v, SR K cl g env' σ' I' H' → Same I I' → (match md with
      | .imm => Rep K cl I' d v
      | .new => ∃ p o, v = .ref p ∧ New g env' σ' I' H' p o ∧ ObjRep K cl I' d o) → Q v H'
    | _ => False)
/-- a def of the text keeps the promise that its body's meaning gives -/
theorem fn_ok {P : Program} {w : World} {K : PySem.W.Frag} {mg : Str → Option Value} {base : Heap} {cl : String → Option Addr} {x qual : Str} {st : Stmt} {f : Addr} {fd : FuncData} {N ps : List Str} {k : Nat} {m : MS}
    (F : Fun K x qual st f fd) (S : FnScope N ps (defScope st)) (hb : BV ⟨P, w, K, mg, base, N, defScope st, k, cl, true⟩ (defBody st) m) : FnG P w K mg base CX0 (k + 1) f fd ps (spM K cl N ps.length m) := by
  refine fun_okG F S (fun h => h.1) (fun cdv A outer s H vs Q E hr hgd h => ?_)
  obtain ⟨t, b1, b2⟩ := hb
  obtain ⟨hl, g, env, I, fl, R, hm, k'⟩ := h
  refine ⟨t, (b1 _ ⟨rfl, rfl, rfl, rfl, rfl, rfl, rfl, rfl, hr, S.nd, fun _ _ => rfl, PassesOwn.never, hgd⟩).nox, ?_⟩
  refine b2 g env (start N vs) I H _ fl R hm ?_
  cases fl with
  | nx e => exact fun σ' I' H' R' s => k' σ' I' H' R' s
  | bk e => exact k'.elim
  | ct e => exact k'.elim
  | ret md d e =>
    intro σ' I' H' v R' s hr
    refine k' σ' I' H' v R' s ?_
    cases md with
    | imm => exact hr
    | new => exact hr
/-! ### the call -/
inductive Ag where
  | imm (d : D) | bor (i : Nat) | io (i : Nat)
inductive AgOk (Z : Zc) (I : Hp) (σ : St) : Ag → V → Prop
  | imm {d v} : Rep Z.K Z.cl I d v → AgOk Z I σ (.imm d) v
  | bor {i v} : σ[i]? = some (some v) → AgOk Z I σ (.bor i) v
  | io {i v} : σ[i]? = some (some v) → AgOk Z I σ (.io i) v
inductive AgsOk (Z : Zc) (I : Hp) (σ : St) : List Ag → List V → Prop
  | nil : AgsOk Z I σ [] []
  | cons {a v as vs} : AgOk Z I σ a v → AgsOk Z I σ as vs → AgsOk Z I σ (a :: as) (v :: vs)
theorem AgOk.mono {I I' : Hp} {σ : St} {a : Ag} {v : V} (s : Same I I') (h : AgOk Z I σ a v) : AgOk Z I' σ a v := by
  cases h with
  | imm r => exact .imm (r.mono s)
  | bor h => exact .bor h
  | io h => exact .io h
abbrev MG := En → Option (List Ag × En)
def SG (Z : Zc) (t : TA) (m : MG) : Prop := ∀ (g : G) (env : En) (σ : St) (I H : Hp) (Q : List V → Hp → Prop) (as : List Ag) (env' : En), SR Z.K Z.cl g env σ I H → m env = some (as, env') →
  (∀ vs I' H', SR Z.K Z.cl g env' σ I' H' → Same I I' → AgsOk Z I' σ as vs → Q vs H') → t σ H Q
def AV (Z : Zc) (es : List Expr) (m : MG) : Prop := ∃ t, (∀ X, InF Z X → PA X es t) ∧ SG Z t m
def cNil : MG := fun env => some ([], env)
def cImm (a : ME) (r : MG) : MG := fun env => (a env).bind fun p => (r p.2).map fun q => (.imm p.1 :: q.1, q.2)
def cBor (i : Nat) (r : MG) : MG := fun env => (env[i]?.bind Sl.rd).bind fun _ => (r env).map fun q => (.bor i :: q.1, q.2)
def cIo (i : Nat) (r : MG) : MG := fun env => (env[i]?.bind Sl.own?).bind fun _ => (r env).map fun q => (.io i :: q.1, q.2)
theorem av_nil : AV Z [] cNil := ⟨tNil, fun _ _ => pa_nil, fun g env σ I H Q as env' R hm k => by cases hm; exact k [] I H R (Same.refl _) .nil⟩
theorem av_imm {e : Expr} {es : List Expr} {m : ME} {r : MG} (h : EV Z e m) (hr : AV Z es r) (hs : ∀ env, starEach (e :: es) env = (false, eval e env) :: starEach es env := by intro _; rfl) : AV Z (e :: es) (cImm m r) := by
  obtain ⟨t, h1, h2⟩ := h
  obtain ⟨u, r1, r2⟩ := hr
  refine ⟨_, fun X i => pa_cons (h1 X i) (r1 X i) (hs _), fun g env σ I H Q as env' R hm k => ?_⟩
  unfold cImm at hm
  cases e1 : m env with
  | none => rw [e1] at hm; cases hm
  | some p =>
    rw [e1] at hm
    simp only [Option.bind_some] at hm
    cases e2 : r p.2 with
    | none => rw [e2] at hm; cases hm
    | some q =>
      rw [e2] at hm; cases hm
      refine h2 g env σ I H _ p.1 p.2 R e1 fun v I1 H1 R1 s1 rv => ?_
      exact r2 g p.2 σ I1 H1 _ q.1 q.2 R1 e2 fun vs I2 H2 R2 s2 rs => k (v :: vs) I2 H2 R2 (s1.trans s2) (.cons (.imm (rv.mono s2)) rs)
theorem av_bor {i : Nat} {x : Str} {p : Pos} {es : List Expr} {r : MG} (hN : Z.N[i]? = some x) (hv : Vis Z.sc x) (hr : AV Z es r) (hd : (x == ("__debug__" : Str)) = false := by decide) (hcd : (x == ("__classdict__" : Str)) = false := by decide)
    (hs : ∀ env, starEach (.Name x p :: es) env = (false, eval (.Name x p) env) :: starEach es env := by intro _; rfl) : AV Z (.Name x p :: es) (cBor i r) := by
  obtain ⟨u, r1, r2⟩ := hr
  refine ⟨_, fun X h => pa_cons (pe_var (by rw [h.N]; exact hN) (visOf h hv) hd hcd) (r1 X h) (hs _), fun g env σ I H Q as env' R hm k => ?_⟩
  unfold cBor at hm
  cases e1 : env[i]?.bind Sl.rd with
  | none => rw [e1] at hm; cases hm
  | some d =>
    rw [e1] at hm
    simp only [Option.bind_some] at hm
    cases e2 : r env with
    | none => rw [e2] at hm; cases hm
    | some q =>
      rw [e2] at hm; cases hm
      obtain ⟨v, hv⟩ := rd_at R e1
      exact ⟨v, hv, r2 g env σ I H _ q.1 q.2 R e2 fun vs I2 H2 R2 s2 rs => k (v :: vs) I2 H2 R2 s2 (.cons (.bor hv) rs)⟩
theorem av_io {i : Nat} {x : Str} {p : Pos} {es : List Expr} {r : MG} (hN : Z.N[i]? = some x) (hv : Vis Z.sc x) (hr : AV Z es r) (hd : (x == ("__debug__" : Str)) = false := by decide) (hcd : (x == ("__classdict__" : Str)) = false := by decide)
    (hs : ∀ env, starEach (.Name x p :: es) env = (false, eval (.Name x p) env) :: starEach es env := by intro _; rfl) : AV Z (.Name x p :: es) (cIo i r) := by
  obtain ⟨u, r1, r2⟩ := hr
  refine ⟨_, fun X h => pa_cons (pe_var (by rw [h.N]; exact hN) (visOf h hv) hd hcd) (r1 X h) (hs _), fun g env σ I H Q as env' R hm k => ?_⟩
  unfold cIo at hm
  cases e1 : env[i]? with
  | none => rw [e1] at hm; cases hm
  | some s =>
    rw [e1] at hm
    simp only [Option.bind_some] at hm
    cases e3 : s.own? with
    | none => rw [e3] at hm; cases hm
    | some d =>
      rw [e3] at hm
      simp only [Option.bind_some] at hm
      cases e2 : r env with
      | none => rw [e2] at hm; cases hm
      | some q =>
        rw [e2] at hm; cases hm
        obtain ⟨a, o, hv, _⟩ := own_at R e1 e3
        exact ⟨_, hv, r2 g env σ I H _ q.1 q.2 R e2 fun vs I2 H2 R2 s2 rs => k (_ :: vs) I2 H2 R2 s2 (.cons (.io hv) rs)⟩
/-- the callee's slots -/
def Ag.slot (env : En) (n : Nat) : Ag → Option Sl
  | .imm d => some (.imm d)
  | .bor i => match env[i]? with
    | some (.imm d) => some (.imm d)
    | some s => s.rd.map .bor
    | none => none
  | .io i => (env[i]?.bind Sl.own?).map fun d => .io n d
def Ag.ioOf : Ag → Option Nat
  | .io i => some i
  | _ => none
def slotsOf (env : En) : Nat → List Ag → Option (List Sl)
  | _, [] => some []
  | n, a :: as => (a.slot env n).bind fun s => (slotsOf env (n + (if a.ioOf.isSome then 1 else 0)) as).map fun r => s :: r
def iosOf (as : List Ag) : List Nat := as.filterMap Ag.ioOf
def borsOf (as : List Ag) : List Nat := as.filterMap fun a => match a with
  | .bor i => some i
  | _ => none
/-- each changed object comes once, and is not read beside -/
def apart (as : List Ag) : Bool := decide (iosOf as).Nodup && (borsOf as).all fun i => decide (i ∉ iosOf as)
/-- what the callee has made of the changed objects -/
def backIo (cenv : En) : Nat → List Nat → List Nat → En → Option En
  | _, [], _, env => some env
  | n, i :: is, j :: js, env => match cenv[j]? with
    | some (.io n' d) => if n' = n then backIo cenv (n + 1) is js (putS env i d) else none
    | _ => none
  | _, _, _, _ => none
def ioPlaces : Nat → List Ag → List Nat
  | _, [] => []
  | n, a :: as => if a.ioOf.isSome then n :: ioPlaces (n + 1) as else ioPlaces (n + 1) as
def mCall (N : List Str) (mf : MS) (a : MG) : En → Option (Md × D × En) := fun env => (a env).bind fun p => if apart p.1 = true then (slotsOf p.2 0 p.1).bind fun ss =>
  (mf (ss ++ List.replicate (N.length - ss.length) .un)).bind fun fl => match fl with
    | .nx cenv => (backIo cenv 0 (iosOf p.1) (ioPlaces 0 p.1) p.2).map fun e => (.imm, .non, e)
    | .ret md d cenv => (backIo cenv 0 (iosOf p.1) (ioPlaces 0 p.1) p.2).map fun e => (md, d, e)
    | _ => none
  else none
def addrAt (σ : St) (i : Nat) : Addr := match σ[i]? with
  | some (some (.ref a)) => a
  | _ => 0
theorem addrAt_eq {σ : St} {i : Nat} {a : Addr} (h : σ[i]? = some (some (.ref a))) : addrAt σ i = a := by unfold addrAt; rw [h]
theorem own_top {s : Sl} {d : D} (h : s.own? = some d) : s.mut = true ∧ s.top = true := by cases s <;> first | exact ⟨rfl, rfl⟩ | cases h
theorem put_flags (s : Sl) (d : D) : (s.put d).mut = s.mut ∧ (s.put d).top = s.top := by cases s <;> exact ⟨rfl, rfl⟩
/-- how the caller's slots stand behind -/
def Behind (Z : Zc) (σ : St) (Ic Hc : Hp) (is : List Nat) (env env' : En) : Prop := env'.length = env.length ∧ ∀ (i : Nat) (s' : Sl), env'[i]? = some s' →
  (i ∉ is ∧ env[i]? = some s') ∨ (i ∈ is ∧ ∃ s d, env[i]? = some s ∧ s.own?.isSome = true ∧ s' = s.put d ∧ ∃ o, Hc (addrAt σ i) = some o ∧ ObjRep Z.K Z.cl Ic d o)
theorem SR.after {g : G} {env env' : En} {σ : St} {I H Ic Hc : Hp} {is : List Nat} (R : SR Z.K Z.cl g env σ I H) (his : ∀ i ∈ is, ∃ s d, env[i]? = some s ∧ s.own? = some d)
    (hI : Same I Ic) (hsub : Same Ic Hc) (hB0 : ∀ a o, H a = some o → a ∉ is.map (addrAt σ) → ¬ IsTab Z.cl a → Hc a = some o) (hT : ∀ a, IsTab Z.cl a → GxR.TabG Hc a) (hC : ∀ a o, H a = some o → I a = none → Ic a = none)
    (hD : ∀ a ∈ is.map (addrAt σ), ∃ o, Hc a = some o) (hE : Behind Z σ Ic Hc is env env') : SR Z.K Z.cl g env' σ Ic Hc := by
  have hB : ∀ {a : Addr} {o : HO} {d : D} {J : Hp}, H a = some o → a ∉ is.map (addrAt σ) → ObjRep Z.K Z.cl J d o → Hc a = some o := fun h n r => hB0 _ _ h n (R.noTab h r)
  -- a changed object's address is of a slot
  have adr : ∀ a ∈ is.map (addrAt σ), ∃ i s d o, i ∈ is ∧ env[i]? = some s ∧ s.own? = some d ∧ σ[i]? = some (some (.ref a)) ∧ H a = some o ∧ I a = none := fun a ha => by
    obtain ⟨i, hi, rfl⟩ := List.mem_map.mp ha
    obtain ⟨s, d, h1, h2⟩ := his i hi
    obtain ⟨b, o, h3, h4, h5, h6⟩ := own_at R h1 h2
    rw [addrAt_eq h3]
    exact ⟨i, s, d, o, hi, h1, h2, h3, h4, h6⟩
  have flags : ∀ (i : Nat) (s' : Sl), env'[i]? = some s' → ∃ s, env[i]? = some s ∧ s'.mut = s.mut ∧ s'.top = s.top := fun i s' h => by
    rcases hE.2 i s' h with ⟨_, h1⟩ | ⟨_, s, d, h1, _, rfl, _⟩
    · exact ⟨s', h1, rfl, rfl⟩
    · exact ⟨s, h1, put_flags s d⟩
  have other : ∀ (i : Nat) (s : Sl) (a : Addr), i ∉ is → env[i]? = some s → s.top = true → σ[i]? = some (some (.ref a)) → a ∉ is.map (addrAt σ) := fun i s a hi h1 h2 h3 ha => by
    obtain ⟨j, s2, d, o, hj, h4, h5, h6, _⟩ := adr a ha
    exact R.dis j i s2 s a (fun z => hi (by rw [← z]; exact hj)) h4 h1 (own_top h5).1 h2 h6 h3
  refine ⟨hsub, R.i0.trans hI, fun a o h1 h2 h9 => ?_, fun a o h1 h2 => ?_, fun a ha => ?_, by rw [hE.1]; exact R.len, fun i s' h => ?_, fun i j s s' a hne h1 h2 m1 m2 => ?_, fun a o hx => ?_, R.ex0, fun a ht => ?_⟩
  rotate_right
  · obtain ⟨t1, ⟨ps, t2, t3⟩, t4⟩ := R.tb a ht
    exact ⟨hC a _ t2 t1, hT a ht, t4⟩
  · refine hB0 a o (R.h0 a o h1 h2 h9) (fun ha => ?_) h9
    obtain ⟨i, s, d, o2, _, q1, q2, q3, q4, q5⟩ := adr a ha
    obtain ⟨x, hx, q⟩ := R.at_ i s q1
    rw [q3] at hx; cases hx
    cases s with
    | own d' => obtain ⟨b, v, e, _, _, _, h4⟩ := q; cases e; rw [h4] at h1; cases h1
    | io k d' => obtain ⟨b, v, e, h0, _⟩ := q; cases e; exact h2 (List.mem_of_getElem? h0)
    | un => cases q2
    | imm => cases q2
    | bor => cases q2
    | lck => cases q2
  · by_cases hO : a ∈ g.O
    · obtain ⟨⟨o2, q1⟩, q2, _⟩ := R.oh a hO
      exact hC a o2 q1 q2
    · by_cases ht : IsTab Z.cl a
      · obtain ⟨t1, ⟨ps, t2, t3⟩, t4⟩ := R.tb a ht
        exact hC a _ t2 t1
      · exact hC a o (R.h0 a o h1 hO ht) (R.hi a o h1 h2)
  · obtain ⟨⟨o, q1⟩, q2, q3⟩ := R.oh a ha
    refine ⟨?_, hC a o q1 q2, q3⟩
    by_cases h : a ∈ is.map (addrAt σ)
    · exact hD a h
    · by_cases ht : IsTab Z.cl a
      · obtain ⟨ps, t2, t3⟩ := hT a ht
        exact ⟨_, t2⟩
      · exact ⟨o, hB0 a o q1 h ht⟩
  · rcases hE.2 i s' h with ⟨hi, h1⟩ | ⟨hi, s, d, h1, h2, rfl, o, h3, h4⟩
    · obtain ⟨x, hx, q⟩ := R.at_ i s' h1
      refine ⟨x, hx, ?_⟩
      cases s' with
      | un => trivial
      | imm d => obtain ⟨v, rfl, r⟩ := q; exact ⟨v, rfl, r.mono hI⟩
      | bor d => obtain ⟨a, rfl, o, q1, q2⟩ := q; exact ⟨a, rfl, o, hB q1 (other i _ a hi h1 rfl hx) q2, q2.mono hI⟩
      | own d => obtain ⟨a, o, rfl, q1, q2, q3, q4⟩ := q; exact ⟨a, o, rfl, hB q1 (other i _ a hi h1 rfl hx) q2, q2.mono hI, hC a o q1 q3, q4⟩
      | lck d => obtain ⟨a, o, rfl, q1, q2, q3, q4⟩ := q; exact ⟨a, o, rfl, hB q1 (other i _ a hi h1 rfl hx) q2, q2.mono hI, hC a o q1 q3, q4⟩
      | io k d => obtain ⟨a, o, rfl, q0, q1, q2⟩ := q; exact ⟨a, o, rfl, q0, hB q1 (other i _ a hi h1 rfl hx) q2, q2.mono hI⟩
    · obtain ⟨x, hx, q⟩ := R.at_ i s h1
      refine ⟨x, hx, ?_⟩
      cases s with
      | own d' =>
        obtain ⟨a, v, rfl, q1, q2, q3, q4⟩ := q
        rw [addrAt_eq hx] at h3
        exact ⟨a, o, rfl, h3, h4, hC a v q1 q3, q4⟩
      | io k d' =>
        obtain ⟨a, v, rfl, q0, q1, q2⟩ := q
        rw [addrAt_eq hx] at h3
        exact ⟨a, o, rfl, q0, h3, h4⟩
      | un => cases h2
      | imm => cases h2
      | bor => cases h2
      | lck => cases h2
  · obtain ⟨t, e1, f1, _⟩ := flags i s h1
    obtain ⟨t', e2, _, f2⟩ := flags j s' h2
    exact R.dis i j t t' a hne e1 e2 (by rw [← f1]; exact m1) (by rw [← f2]; exact m2)
  · obtain ⟨q1, q2, q3⟩ := R.ex a o hx
    have nt : ¬ IsTab Z.cl a := fun t => by
      obtain ⟨_, _, v, t4⟩ := R.tb a t
      rw [R.ex0 a o hx] at t4; cases t4
    refine ⟨hB0 a o q1 (fun ha => ?_) nt, hC a o q1 q2, fun i s h ht => ?_⟩
    · obtain ⟨i, s, d, o2, _, e1, e2, e3, _⟩ := adr a ha
      exact q3 i s e1 (own_top e2).2 e3
    · obtain ⟨t, e1, _, f1⟩ := flags i s h
      exact q3 i t e1 (by rw [← f1]; exact ht)
theorem putS_get {env : En} {i j : Nat} {d : D} {s : Sl} (h : (putS env i d)[j]? = some s) : (j ≠ i ∧ env[j]? = some s) ∨ (j = i ∧ ∃ s0, env[i]? = some s0 ∧ s = s0.put d) := by
  unfold putS at h
  cases e : env[i]? with
  | none =>
    rw [e] at h
    by_cases hj : j = i
    · subst hj; rw [e] at h; cases h
    · exact .inl ⟨hj, h⟩
  | some s0 =>
    rw [e] at h
    rcases set_get h with ⟨rfl, _, rfl⟩ | ⟨n, h⟩
    · exact .inr ⟨rfl, s0, rfl, rfl⟩
    · exact .inl ⟨n, h⟩
theorem putS_length (env : En) (i : Nat) (d : D) : (putS env i d).length = env.length := by
  unfold putS
  split <;> simp
theorem back_ok {g' : G} {cenv : En} {σc : St} {σ : St} {Ic Hc : Hp} (Rc : SR Z.K Z.cl g' cenv σc Ic Hc) : ∀ (n : Nat) (is js : List Nat) (env env' : En), is.Nodup → backIo cenv n is js env = some env' →
    (∀ i ∈ is, ∃ s d, env[i]? = some s ∧ s.own? = some d) → (∀ k i, is[k]? = some i → g'.O[n + k]? = some (addrAt σ i)) → Behind Z σ Ic Hc is env env'
  | n, [], js, env, env', _, h, _, _ => by
    unfold backIo at h
    cases h
    exact ⟨rfl, fun i s h => .inl ⟨by simp, h⟩⟩
  | n, i :: is, [], env, env', _, h, _, _ => by unfold backIo at h; cases h
  | n, i :: is, j :: js, env, env', hnd, h, hown, hO => by
    unfold backIo at h
    split at h
    · rename_i n' d hj
      split at h
      · rename_i hn
        subst hn
        obtain ⟨hi, hnd2⟩ := List.nodup_cons.mp hnd
        have ih := back_ok Rc (n' + 1) is js (putS env i d) env' hnd2 h (fun k hk => by
          obtain ⟨s, d', h1, h2⟩ := hown k (List.mem_cons_of_mem _ hk)
          have hne : k ≠ i := fun z => hi (by rw [← z]; exact hk)
          refine ⟨s, d', ?_, h2⟩
          unfold putS
          split
          · rw [List.getElem?_set_ne (Ne.symm hne)]; exact h1
          · exact h1) (fun k q hq => by have := hO (k + 1) q (by simpa using hq); rw [← this]; congr 1; omega)
        obtain ⟨hl, hb⟩ := ih
        obtain ⟨x, hx, a, o, rfl, q0, q1, q2⟩ := Rc.at_ j _ hj
        have ha : a = addrAt σ i := by
          have := hO 0 i rfl
          rw [Nat.add_zero] at this
          rw [this] at q0
          exact (Option.some.inj q0).symm
        refine ⟨by rw [hl, putS_length], fun k s' hk => ?_⟩
        rcases hb k s' hk with ⟨h1, h2⟩ | ⟨h1, s, d2, h2, h3, h4, h5⟩
        · rcases putS_get h2 with ⟨hne, f2⟩ | ⟨hki, s0, f2, f3⟩
          · exact .inl ⟨by simp [hne, h1], f2⟩
          · obtain ⟨s, d', e1, e2⟩ := hown i List.mem_cons_self
            rw [f2] at e1; cases e1
            refine .inr ⟨by simp [hki], s0, d, by rw [hki]; exact f2, by rw [e2]; rfl, f3, o, by rw [hki, ← ha]; exact q1, q2⟩
        · have hne : k ≠ i := fun z => hi (by rw [← z]; exact h1)
          rcases putS_get h2 with ⟨_, f2⟩ | ⟨z, _⟩
          · exact .inr ⟨List.mem_cons_of_mem _ h1, s, d2, f2, h3, h4, h5⟩
          · exact absurd z hne
      · cases h
    · cases h
theorem slotsOf_length {env : En} : ∀ {as : List Ag} {n : Nat} {ss : List Sl}, slotsOf env n as = some ss → ss.length = as.length
  | [], n, ss, h => by cases h; rfl
  | a :: as, n, ss, h => by
    unfold slotsOf at h
    cases e1 : a.slot env n with
    | none => rw [e1] at h; cases h
    | some s =>
      rw [e1] at h; simp only [Option.bind_some] at h
      cases e2 : slotsOf env (n + (if a.ioOf.isSome then 1 else 0)) as with
      | none => rw [e2] at h; cases h
      | some r => rw [e2] at h; cases h; simp [slotsOf_length e2]
/-- the k-th slot of the callee: of which argument -/
theorem slotsOf_get {env : En} : ∀ {as : List Ag} {n : Nat} {ss : List Sl} {k : Nat} {s : Sl}, slotsOf env n as = some ss → ss[k]? = some s → ∃ a, as[k]? = some a ∧ a.slot env (n + (iosOf (as.take k)).length) = some s
  | [], n, ss, k, s, h, hk => by cases h; simp at hk
  | a :: as, n, ss, k, s, h, hk => by
    unfold slotsOf at h
    cases e1 : a.slot env n with
    | none => rw [e1] at h; cases h
    | some s1 =>
      rw [e1] at h; simp only [Option.bind_some] at h
      cases e2 : slotsOf env (n + (if a.ioOf.isSome then 1 else 0)) as with
      | none => rw [e2] at h; cases h
      | some r =>
        rw [e2] at h; cases h
        cases k with
        | zero => cases hk; exact ⟨a, rfl, by simpa [iosOf] using e1⟩
        | succ k =>
          obtain ⟨b, h1, h2⟩ := slotsOf_get e2 (by simpa using hk)
          refine ⟨b, by simpa using h1, ?_⟩
          have : n + (iosOf ((a :: as).take (k + 1))).length = n + (if a.ioOf.isSome then 1 else 0) + (iosOf (as.take k)).length := by
            rw [List.take_succ_cons]
            unfold iosOf
            rw [List.filterMap_cons]
            cases a.ioOf with
            | none => simp
            | some i => simp; omega
          rw [this]; exact h2
theorem iosOf_at : ∀ {as : List Ag} {k i : Nat}, as[k]? = some (.io i) → (iosOf as)[(iosOf (as.take k)).length]? = some i
  | [], k, i, h => by simp at h
  | a :: as, 0, i, h => by simp at h; subst h; simp [iosOf, Ag.ioOf]
  | a :: as, k + 1, i, h => by
    have ih := iosOf_at (as := as) (k := k) (i := i) (by simpa using h)
    rw [List.take_succ_cons]
    unfold iosOf at ih ⊢
    rw [List.filterMap_cons, List.filterMap_cons]
    cases a.ioOf with
    | none => exact ih
    | some j => simpa using ih
theorem AgsOk.get {I : Hp} {σ : St} : ∀ {as : List Ag} {vs : List V} {k : Nat} {a : Ag}, AgsOk Z I σ as vs → as[k]? = some a → ∃ v, vs[k]? = some v ∧ AgOk Z I σ a v
  | _, _, k, _, .nil, h => by simp at h
  | _, _, 0, _, .cons o os, h => by simp at h; subst h; exact ⟨_, rfl, o⟩
  | _, _, k + 1, _, .cons o os, h => by
    obtain ⟨v, h1, h2⟩ := AgsOk.get (k := k) os (by simpa using h)
    exact ⟨v, by simpa using h1, h2⟩
theorem AgsOk.length {I : Hp} {σ : St} : ∀ {as : List Ag} {vs : List V}, AgsOk Z I σ as vs → as.length = vs.length
  | _, _, .nil => rfl
  | _, _, .cons _ os => by simp [AgsOk.length os]
theorem mCall_inv {N : List Str} {mf : MS} {a : MG} {env : En} {md : Md} {d : D} {e : En} (h : mCall N mf a env = some (md, d, e)) :
    ∃ as e1 ss fl cenv, a env = some (as, e1) ∧ apart as = true ∧ slotsOf e1 0 as = some ss ∧ mf (ss ++ List.replicate (N.length - ss.length) .un) = some fl ∧ backIo cenv 0 (iosOf as) (ioPlaces 0 as) e1 = some e ∧
      ((fl = .nx cenv ∧ md = .imm ∧ d = .non) ∨ fl = .ret md d cenv) := by
  unfold mCall at h
  cases q1 : a env with
  | none => rw [q1] at h; cases h
  | some p =>
    rw [q1] at h; simp only [Option.bind_some] at h
    split at h
    · rename_i hap
      cases q2 : slotsOf p.2 0 p.1 with
      | none => rw [q2] at h; cases h
      | some ss =>
        rw [q2] at h; simp only [Option.bind_some] at h
        cases q3 : mf (ss ++ List.replicate (N.length - ss.length) .un) with
        | none => rw [q3] at h; cases h
        | some fl =>
          rw [q3] at h; simp only [Option.bind_some] at h
          cases fl with
          | nx cenv =>
            dsimp only at h
            cases q4 : backIo cenv 0 (iosOf p.1) (ioPlaces 0 p.1) p.2 with
            | none => rw [q4] at h; cases h
            | some e2 => rw [q4] at h; cases h; exact ⟨_, _, ss, _, cenv, rfl, hap, q2, q3, q4, .inl ⟨rfl, rfl, rfl⟩⟩
          | ret md' d' cenv =>
            dsimp only at h
            cases q4 : backIo cenv 0 (iosOf p.1) (ioPlaces 0 p.1) p.2 with
            | none => rw [q4] at h; cases h
            | some e2 => rw [q4] at h; cases h; exact ⟨_, _, ss, _, cenv, rfl, hap, q2, q3, q4, .inr rfl⟩
          | bk => cases h
          | ct => cases h
    · cases h
/-- the callee's state at its entry -/
theorem callee {g : G} {env : En} {σ : St} {I H : Hp} {as : List Ag} {vs : List V} {ss : List Sl} {N : List Str} (R : SR Z.K Z.cl g env σ I H) (ho : AgsOk Z I σ as vs) (hap : apart as = true) (hss : slotsOf env 0 as = some ss) :
    (∀ i ∈ iosOf as, ∃ s d, env[i]? = some s ∧ s.own? = some d) ∧ SR Z.K Z.cl ⟨I, H, (iosOf as).map (addrAt σ), []⟩ (ss ++ List.replicate (N.length - ss.length) .un) (start N vs) I H := by
  unfold apart at hap
  rw [Bool.and_eq_true] at hap
  obtain ⟨hnd, hbor⟩ := hap
  have hnd := of_decide_eq_true hnd
  have own : ∀ i ∈ iosOf as, ∃ s d, env[i]? = some s ∧ s.own? = some d := fun i hi => by
    unfold iosOf at hi
    obtain ⟨a, ha, hai⟩ := List.mem_filterMap.mp hi
    obtain ⟨k, hk⟩ := List.getElem?_of_mem ha
    have hkl : k < ss.length := by rw [slotsOf_length hss]; exact (List.getElem?_eq_some_iff.mp hk).1
    obtain ⟨b, h1, h2⟩ := slotsOf_get hss (List.getElem?_eq_getElem hkl)
    rw [hk] at h1; cases h1
    cases a <;> first | (cases hai) | cases hai
    unfold Ag.slot at h2
    dsimp only at h2
    cases e : env[i]? with
    | none => rw [e] at h2; cases h2
    | some s =>
      rw [e] at h2
      simp only [Option.bind_some] at h2
      cases e2 : s.own? with
      | none => rw [e2] at h2; cases h2
      | some d => exact ⟨s, d, rfl, e2⟩
  refine ⟨own, R.sub, Same.refl _, fun a o h _ _ => h, fun a o _ h => h, fun a ha => ?_, ?_, fun k s hk => ?_, fun j k s s' a hne hj hk m1 m2 => ?_, (fun a o h => by cases h), (fun a o h => by cases h), fun a ht => let ⟨t1, t2, _⟩ := R.tb a ht; ⟨t1, t2, let ⟨ps, h, _⟩ := t2; ⟨_, h⟩⟩⟩
  · obtain ⟨i, hi, rfl⟩ := List.mem_map.mp ha
    obtain ⟨s, d, h1, h2⟩ := own i hi
    obtain ⟨b, o, h3, h4, h5, h6⟩ := own_at R h1 h2
    rw [addrAt_eq h3]
    exact ⟨⟨o, h4⟩, h6, o, h4⟩
  · unfold L2.start
    rw [List.length_append, List.length_append, List.length_replicate, List.length_replicate, List.length_map, slotsOf_length hss, ho.length]
  · by_cases hkl : k < ss.length
    · rw [List.getElem?_append_left hkl] at hk
      obtain ⟨a, h1, h2⟩ := slotsOf_get hss hk
      obtain ⟨v, h3, h4⟩ := ho.get h1
      refine ⟨some v, ?_, ?_⟩
      · unfold L2.start
        rw [List.getElem?_append_left (by rw [List.length_map, ← ho.length, ← slotsOf_length hss]; exact hkl), List.getElem?_map, h3]; rfl
      · cases h4 with
        | imm r => cases h2; exact ⟨v, rfl, r⟩
        | bor hv =>
          rename_i i
          unfold Ag.slot at h2
          dsimp only at h2
          split at h2
          · rename_i d e
            cases h2
            obtain ⟨x, hx, u, rfl, r⟩ := R.at_ i _ e
            rw [hv] at hx; cases hx
            exact ⟨v, rfl, r⟩
          · rename_i s0 hno e
            obtain ⟨x, hx, q⟩ := R.at_ i _ e
            rw [hv] at hx; cases hx
            cases s0 with
            | un => cases h2
            | imm d => exact absurd rfl (hno d)
            | bor d => cases h2; obtain ⟨b, e2, t⟩ := q; cases e2; exact ⟨b, rfl, t⟩
            | own d => cases h2; obtain ⟨b, o, e2, q1, q2, _⟩ := q; cases e2; exact ⟨b, rfl, o, q1, q2⟩
            | lck d => cases h2; obtain ⟨b, o, e2, q1, q2, _⟩ := q; cases e2; exact ⟨b, rfl, o, q1, q2⟩
            | io n d => cases h2; obtain ⟨b, o, e2, _, q1, q2⟩ := q; cases e2; exact ⟨b, rfl, o, q1, q2⟩
          · cases h2
        | io hv =>
          rename_i i
          unfold Ag.slot at h2
          dsimp only at h2
          cases e : env[i]? with
          | none => rw [e] at h2; cases h2
          | some s0 =>
            rw [e] at h2
            simp only [Option.bind_some] at h2
            cases e2 : s0.own? with
            | none => rw [e2] at h2; cases h2
            | some d =>
              rw [e2] at h2; cases h2
              obtain ⟨b, o, h5, h6, h7, h8⟩ := own_at R e e2
              rw [hv] at h5; cases h5
              refine ⟨b, o, rfl, ?_, h6, h7⟩
              have := iosOf_at h1
              rw [Nat.zero_add, List.getElem?_map, this]
              show some (addrAt σ i) = some b
              rw [addrAt_eq hv]
    · rw [List.getElem?_append_right (by omega), List.getElem?_replicate] at hk
      split at hk
      · rename_i hlt
        cases hk
        refine ⟨none, ?_, trivial⟩
        unfold L2.start
        have e1 := ho.length
        have e2 := slotsOf_length hss
        rw [List.getElem?_append_right (by rw [List.length_map]; omega), List.getElem?_replicate, List.length_map, if_pos (by omega)]
      · cases hk
  · -- two slots at one address
    intro q1 q2
    have low : ∀ (k : Nat) (s : Sl), (ss ++ List.replicate (N.length - ss.length) Sl.un)[k]? = some s → s.top = true → (start N vs)[k]? = some (some (.ref a)) →
        ∃ i ag t, as[k]? = some ag ∧ (ag = .bor i ∨ ag = .io i) ∧ env[i]? = some t ∧ t.top = true ∧ σ[i]? = some (some (.ref a)) ∧ (s.mut = true → ag = .io i ∧ t.mut = true) := fun k s hk ht hv => by
      by_cases hkl : k < ss.length
      · rw [List.getElem?_append_left hkl] at hk
        obtain ⟨ag, h1, h2⟩ := slotsOf_get hss hk
        obtain ⟨v, h3, h4⟩ := ho.get h1
        have hv2 : v = .ref a := by
          unfold L2.start at hv
          rw [List.getElem?_append_left (by rw [List.length_map, ← ho.length, ← slotsOf_length hss]; exact hkl), List.getElem?_map, h3] at hv
          cases hv; rfl
        subst hv2
        cases h4 with
        | imm r => cases h2; cases ht
        | bor hv3 =>
          rename_i i
          unfold Ag.slot at h2
          dsimp only at h2
          split at h2
          · cases h2; cases ht
          · rename_i s0 hno e
            refine ⟨i, _, s0, h1, .inl rfl, e, ?_, hv3, fun hm => ?_⟩
            · cases s0 <;> first | rfl | (exact absurd rfl (hno _)) | cases h2
            · cases s0 <;> first | (cases h2; cases hm) | cases h2 | (exact absurd rfl (hno _))
          · cases h2
        | io hv3 =>
          rename_i i
          unfold Ag.slot at h2
          dsimp only at h2
          cases e : env[i]? with
          | none => rw [e] at h2; cases h2
          | some s0 =>
            rw [e] at h2
            simp only [Option.bind_some] at h2
            cases e2 : s0.own? with
            | none => rw [e2] at h2; cases h2
            | some d => exact ⟨i, _, s0, h1, .inr rfl, e, (own_top e2).2, hv3, fun _ => ⟨rfl, (own_top e2).1⟩⟩
      · rw [List.getElem?_append_right (by omega), List.getElem?_replicate] at hk
        split at hk
        · cases hk; cases ht
        · cases hk
    have m1t : s.top = true := by cases s <;> first | rfl | cases m1
    obtain ⟨i, ag, t, f1, f2, f3, f4, f5, f6⟩ := low j s hj m1t q1
    obtain ⟨i', ag', t', k1, k2, k3, k4, k5, k6⟩ := low k s' hk m2 q2
    obtain ⟨f7, f8⟩ := f6 m1
    subst f7
    by_cases hii : i = i'
    · subst hii
      have him : i ∈ iosOf as := List.mem_filterMap.mpr ⟨_, List.mem_of_getElem? f1, rfl⟩
      rcases k2 with k2 | k2
      · subst k2
        have hb : i ∈ borsOf as := List.mem_filterMap.mpr ⟨_, List.mem_of_getElem? k1, rfl⟩
        exact of_decide_eq_true (List.all_eq_true.mp hbor i hb) him
      · subst k2
        have p1 := iosOf_at f1
        have p2 := iosOf_at k1
        have p3 : (iosOf (as.take j)).length = (iosOf (as.take k)).length := by
          obtain ⟨l1, e1⟩ := List.getElem?_eq_some_iff.mp p1
          obtain ⟨l2, e2⟩ := List.getElem?_eq_some_iff.mp p2
          exact (List.getElem_inj hnd).mp (e1.trans e2.symm)
        have cnt : ∀ (a b : Nat), a < b → as[a]? = some (.io i) → (iosOf (as.take a)).length < (iosOf (as.take b)).length := fun a b hab ha => by
          have hal := (List.getElem?_eq_some_iff.mp ha)
          have e1 : as.take b = as.take a ++ (as.drop a).take (b - a) := by
            rw [← List.take_add]; congr 1; omega
          obtain ⟨hal, hae⟩ := hal
          have e2 : as.drop a = .io i :: as.drop (a + 1) := by rw [← hae]; exact List.drop_eq_getElem_cons hal
          rw [e1, e2]
          obtain ⟨c, hc⟩ : ∃ c, b - a = c + 1 := ⟨b - a - 1, by omega⟩
          rw [hc, List.take_succ_cons]
          unfold iosOf
          rw [List.filterMap_append, List.length_append, List.filterMap_cons]
          show _ < _ + (i :: _).length
          rw [List.length_cons]
          omega
        rcases Nat.lt_trichotomy j k with h | h | h
        · have := cnt j k h f1; omega
        · exact hne h
        · have := cnt k j h k1; omega
    · exact R.dis i i' t t' a hii f3 k3 f8 k4 f5 k5
end
section
variable {Z : Zc}
/-- the promise, called -/
theorem call_post {g : G} {env : En} {σ : St} {I H : Hp} {as : List Ag} {vs : List V} {ss : List Sl} {N : List Str} {np : Nat} {mf : MS} {fl : Fl} {cenv env' : En} {md : Md} {d : D} {Q : VK} {E : XK}
    (R : SR Z.K Z.cl g env σ I H) (ho : AgsOk Z I σ as vs) (hap : apart as = true) (hss : slotsOf env 0 as = some ss) (hm : mf (ss ++ List.replicate (N.length - ss.length) .un) = some fl) (hb : backIo cenv 0 (iosOf as) (ioPlaces 0 as) env = some env')
    (hfl : (fl = .nx cenv ∧ md = .imm ∧ d = .non) ∨ fl = .ret md d cenv) (hnp : as.length = np)
    (k : ∀ Ic Hc v, SR Z.K Z.cl g env' σ Ic Hc → Same I Ic → RetOk Z g env' σ Ic Hc md d v → Q v Hc) : spM Z.K Z.cl N np mf vs H Q E := by
  obtain ⟨own, Rc⟩ := callee (N := N) R ho hap hss
  refine ⟨by rw [← ho.length]; exact hnp, _, _, I, fl, Rc, hm, ?_⟩
  have hap' := hap
  unfold apart at hap'
  rw [Bool.and_eq_true] at hap'
  have hnd := of_decide_eq_true hap'.1
  have fin : ∀ (σ' : St) (Ic Hc : Hp), SR Z.K Z.cl ⟨I, H, (iosOf as).map (addrAt σ), []⟩ cenv σ' Ic Hc → Same I Ic → SR Z.K Z.cl g env' σ Ic Hc := fun σ' Ic Hc Rd s => by
    refine R.after own s Rd.sub (fun a o h1 h2 h3 => Rd.h0 a o h1 h2 h3) (fun a ht => (Rd.tb a ht).2.1) (fun a o h1 h2 => Rd.hi a o h1 h2) (fun a ha => (Rd.oh a ha).1) ?_
    exact back_ok Rd 0 (iosOf as) (ioPlaces 0 as) env env' hnd hb own fun k i hk => by rw [Nat.zero_add, List.getElem?_map, hk]; rfl
  have newB : ∀ (σ' : St) (Ic Hc : Hp) (p : Addr) (o : HO), SR Z.K Z.cl ⟨I, H, (iosOf as).map (addrAt σ), []⟩ cenv σ' Ic Hc → SR Z.K Z.cl g env' σ Ic Hc → New ⟨I, H, (iosOf as).map (addrAt σ), []⟩ cenv σ' Ic Hc p o → New g env' σ Ic Hc p o := fun σ' Ic Hc p o Rd Rf n => by
    have hp : H p = none := n.h0
    refine ⟨n.at_, n.i, R.fresh0 hp, fun i s h ht => ?_, fun o' hx => by have := (R.ex p o' hx).1; rw [hp] at this; cases this⟩
    have bh := back_ok Rd 0 (iosOf as) (ioPlaces 0 as) env env' hnd hb own fun k i hk => by rw [Nat.zero_add, List.getElem?_map, hk]; rfl
    rcases bh.2 i s h with ⟨_, h1⟩ | ⟨_, t, d', h1, _, rfl, _⟩
    · exact R.slot_ne hp i s h1 ht
    · exact R.slot_ne hp i t h1 (by rw [← (put_flags t d').2]; exact ht)
  rcases hfl with ⟨rfl, rfl, rfl⟩ | rfl
  · intro σ' Ic Hc Rd s
    exact k Ic Hc .non (fin σ' Ic Hc Rd s) s .non
  · intro σ' Ic Hc v Rd s hr
    have Rf := fin σ' Ic Hc Rd s
    refine k Ic Hc v Rf s ?_
    cases md with
    | imm => exact hr
    | new => obtain ⟨p, o, e, n, r⟩ := hr; exact ⟨p, o, e, newB σ' Ic Hc p o Rd Rf n, r⟩
def mCallV (N : List Str) (np : Nat) (mf : MS) (a : MG) : ME := fun env => if ((a env).map fun p => p.1.length) = some np then (mCall N mf a env).map fun r => (r.2.1, r.2.2) else none
def mCallF (N : List Str) (np : Nat) (mf : MS) (a : MG) : ME := fun env => if ((a env).map fun p => p.1.length) = some np then (mCall N mf a env).bind fun r => match r.1 with
  | .new => some (r.2.1, r.2.2)
  | .imm => none
  else none
/-- what stands for a def: its promise at its level -/
structure FnZ (Z : Zc) (x : Str) (N : List Str) (np : Nat) (mf : MS) : Prop where
  ex : ∃ (f : Addr) (fd : FuncData) (ps : List Str), FnG Z.P Z.w Z.K Z.mg Z.base CX0 Z.k f fd ps (spM Z.K Z.cl N np mf) ∧ Z.mg x = some (.ref f) ∧ PySem.W.keepIn Z.K (.ref f) = true ∧ Binds Z.K fd ps []
theorem call_se {N : List Str} {np : Nat} {mf : MS} {t : TA} {a : MG} (h : SG Z t a) : SE Z (tCall (spM Z.K Z.cl N np mf) [] E0 t) (mCallV N np mf a) := by
  intro g env σ I H Q d env' R hm k
  unfold mCallV at hm
  split at hm
  · rename_i hnp
    cases q : mCall N mf a env with
    | none => rw [q] at hm; cases hm
    | some r =>
      obtain ⟨md, d', e'⟩ := r
      rw [q] at hm; cases hm
      obtain ⟨as, e1, ss, fl, cenv, h1, h2, h3, h4, h5, h6⟩ := mCall_inv q
      rw [h1] at hnp
      refine h g env σ I H _ as e1 R h1 fun vs I1 H1 R1 s1 os => ?_
      rw [List.append_nil]
      refine call_post R1 os h2 h3 h4 h5 h6 (Option.some.inj hnp) fun Ic Hc v Rf s hr => ?_
      cases md with
      | imm => exact k v Ic Hc Rf (s1.trans s) hr
      | new =>
        obtain ⟨p, o, rfl, n, r⟩ := hr
        obtain ⟨R2, s2⟩ := Rf.freeze n
        exact k _ _ _ R2 ((s1.trans s).trans s2) (.obj upd_same (r.mono s2))
  · cases hm
theorem call_sf {N : List Str} {np : Nat} {mf : MS} {t : TA} {a : MG} (h : SG Z t a) : SF Z (tCall (spM Z.K Z.cl N np mf) [] E0 t) (mCallF N np mf a) := by
  intro g env σ I H Q d env' R hm k
  unfold mCallF at hm
  split at hm
  · rename_i hnp
    cases q : mCall N mf a env with
    | none => rw [q] at hm; cases hm
    | some r =>
      obtain ⟨md, d', e'⟩ := r
      rw [q] at hm
      cases md with
      | imm => cases hm
      | new =>
        cases hm
        obtain ⟨as, e1, ss, fl, cenv, h1, h2, h3, h4, h5, h6⟩ := mCall_inv q
        rw [h1] at hnp
        refine h g env σ I H _ as e1 R h1 fun vs I1 H1 R1 s1 os => ?_
        rw [List.append_nil]
        refine call_post R1 os h2 h3 h4 h5 h6 (Option.some.inj hnp) fun Ic Hc v Rf s hr => ?_
        obtain ⟨p, o, rfl, n, r⟩ := hr
        exact k p o Ic Hc Rf (s1.trans s) n r
  · cases hm
theorem ev_call {x : Str} {N : List Str} {np : Nat} {mf : MS} {e : Expr} {es : List Expr} {a : MG} {p pos : Pos} (F : FnZ Z x N np mf) (hg : GlZ Z x) (ha : AV Z (e :: es) a) (hdb : (x == ("__debug__" : Str)) = false := by decide)
    (he : ∀ env, starEach (e :: es) env = (false, eval e env) :: starEach es env := by intro _; rfl) (hpl : ∀ env, (backTo pos (starEach es env)).any (·.1) = false := by intro _; rfl) : EV Z (.Call (.Name x p) (e :: es) [] pos) (mCallV N np mf a) := by
  obtain ⟨f, fd, ps, h1, h2, h3, h4⟩ := F.ex
  obtain ⟨t, a1, a2⟩ := ha
  refine ⟨_, fun X i => FnG.pe (CX := CX0) (k := Z.k) (f := f) (fd := fd) (ps := ps) (E := E0) (sp := spM Z.K Z.cl N np mf) ?_ i.room i.gd (glOf i hg) (by rw [i.mg]; exact h2) (by rw [i.K]; exact h3) (by rw [i.K]; exact h4) pass0 (a1 X i) hdb (he _) (hpl _), call_se a2⟩
  rw [i.prog, i.w, i.K, i.mg, i.base]; exact h1
theorem ef_call {x : Str} {N : List Str} {np : Nat} {mf : MS} {e : Expr} {es : List Expr} {a : MG} {p pos : Pos} (F : FnZ Z x N np mf) (hg : GlZ Z x) (ha : AV Z (e :: es) a) (hdb : (x == ("__debug__" : Str)) = false := by decide)
    (he : ∀ env, starEach (e :: es) env = (false, eval e env) :: starEach es env := by intro _; rfl) (hpl : ∀ env, (backTo pos (starEach es env)).any (·.1) = false := by intro _; rfl) : EF Z (.Call (.Name x p) (e :: es) [] pos) (mCallF N np mf a) := by
  obtain ⟨f, fd, ps, h1, h2, h3, h4⟩ := F.ex
  obtain ⟨t, a1, a2⟩ := ha
  refine ⟨_, fun X i => FnG.pe (CX := CX0) (k := Z.k) (f := f) (fd := fd) (ps := ps) (E := E0) (sp := spM Z.K Z.cl N np mf) ?_ i.room i.gd (glOf i hg) (by rw [i.mg]; exact h2) (by rw [i.K]; exact h3) (by rw [i.K]; exact h4) pass0 (a1 X i) hdb (he _) (hpl _), call_sf a2⟩
  rw [i.prog, i.w, i.K, i.mg, i.base]; exact h1
end
end Q
namespace Q
open PySem L2
section
variable {Z : Zc}
/-! ## Methods, instances made, fields stored -/
def isObj (c : String) (m : Str) : D → Bool
  | .obj c' ks _ => decide (c' = c) && decide (m ∉ ks)
  | _ => false
theorem isObj_inv {c : String} {m : Str} {d : D} (h : isObj c m d = true) : ∃ ks xs, d = .obj c ks xs ∧ m ∉ ks := by
  cases d <;> simp only [isObj] at h <;> first | (rw [Bool.and_eq_true] at h; obtain ⟨h1, h2⟩ := h; have := of_decide_eq_true h1; subst this; exact ⟨_, _, rfl, of_decide_eq_true h2⟩) | cases h
theorem lookup_out {m : Str} : ∀ {ks : List Str} {vs : List V}, m ∉ ks → (ks.zip vs).lookup m = none
  | [], _, _ => by simp
  | k :: ks, [], _ => by simp
  | k :: ks, v :: vs, h => by
    rw [List.zip_cons_cons, List.lookup_cons]
    have h1 : (m == k) = false := by
      rw [beq_eq_false_iff_ne]
      exact fun z => h (by rw [z]; exact List.mem_cons_self)
    rw [h1]
    exact lookup_out fun z => h (List.mem_cons_of_mem _ z)
structure MtZ (Z : Zc) (c : String) (m : Str) (N : List Str) (np : Nat) (mf : MS) : Prop where
  ex : ∃ (C f : Addr) (fd : FuncData) (ps : List Str), Z.cl c = some C ∧ Cls Z.K C ∧ Meth Z.K C m f ∧ FnG Z.P Z.w Z.K Z.mg Z.base CX0 Z.k f fd ps (spM Z.K Z.cl N np mf) ∧ Binds Z.K fd ps []
def cRecv (c : String) (m : Str) (a : ME) (r : MG) : MG := fun env => (a env).bind fun p => if isObj c m p.1 = true then (r p.2).map fun q => (.imm p.1 :: q.1, q.2) else none
def cRecvIo (c : String) (m : Str) (i : Nat) (r : MG) : MG := fun env => (env[i]?.bind Sl.own?).bind fun d => if isObj c m d = true then (r env).map fun q => (.io i :: q.1, q.2) else none
/-- what a method call asks, from the receiver on -/
theorem meth_core {c : String} {mn : Str} {C : Addr} {N : List Str} {np : Nat} {mf : MS} {ta : TE} {t : TA} {a : MG} (hC : Z.cl c = some C)
    (h : ∀ (g : G) (env : En) (σ : St) (I H : Hp) (Q : VK) (as : List Ag) (env' : En), SR Z.K Z.cl g env σ I H → a env = some (as, env') → (∀ v vs I' H', SR Z.K Z.cl g env' σ I' H' → Same I I' → AgsOk Z I' σ as (v :: vs) → spM Z.K Z.cl N np mf (v :: vs) H' Q E0) → tMeth C mn (spM Z.K Z.cl N np mf) [] E0 ta t σ H Q) :
    SE Z (tMeth C mn (spM Z.K Z.cl N np mf) [] E0 ta t) (mCallV N np mf a) ∧ SF Z (tMeth C mn (spM Z.K Z.cl N np mf) [] E0 ta t) (mCallF N np mf a) := by
  constructor
  · intro g env σ I H Q d env' R hm k
    unfold mCallV at hm
    split at hm
    · rename_i hnp
      cases q : mCall N mf a env with
      | none => rw [q] at hm; cases hm
      | some r =>
        obtain ⟨md, d', e'⟩ := r
        rw [q] at hm; cases hm
        obtain ⟨as, e1, ss, fl, cenv, h1, h2, h3, h4, h5, h6⟩ := mCall_inv q
        rw [h1] at hnp
        refine h g env σ I H Q as e1 R h1 fun v vs I1 H1 R1 s1 os => ?_
        refine call_post R1 os h2 h3 h4 h5 h6 (Option.some.inj hnp) fun Ic Hc v Rf s hr => ?_
        cases md with
        | imm => exact k v Ic Hc Rf (s1.trans s) hr
        | new =>
          obtain ⟨p, o, rfl, n, r⟩ := hr
          obtain ⟨R2, s2⟩ := Rf.freeze n
          exact k _ _ _ R2 ((s1.trans s).trans s2) (.obj upd_same (r.mono s2))
    · cases hm
  · intro g env σ I H Q d env' R hm k
    unfold mCallF at hm
    split at hm
    · rename_i hnp
      cases q : mCall N mf a env with
      | none => rw [q] at hm; cases hm
      | some r =>
        obtain ⟨md, d', e'⟩ := r
        rw [q] at hm
        cases md with
        | imm => cases hm
        | new =>
          cases hm
          obtain ⟨as, e1, ss, fl, cenv, h1, h2, h3, h4, h5, h6⟩ := mCall_inv q
          rw [h1] at hnp
          refine h g env σ I H Q as e1 R h1 fun v vs I1 H1 R1 s1 os => ?_
          refine call_post R1 os h2 h3 h4 h5 h6 (Option.some.inj hnp) fun Ic Hc v Rf s hr => ?_
          obtain ⟨p, o, rfl, n, r⟩ := hr
          exact k p o Ic Hc Rf (s1.trans s) n r
    · cases hm
theorem recv_ok {c : String} {mn : Str} {C : Addr} {N : List Str} {np : Nat} {mf : MS} {ta : TE} {t : TA} {m : ME} {a : MG} (hC : Z.cl c = some C) (h2 : SE Z ta m) (a2 : SG Z t a) :
    ∀ (g : G) (env : En) (σ : St) (I H : Hp) (Q : VK) (as : List Ag) (env' : En), SR Z.K Z.cl g env σ I H → cRecv c mn m a env = some (as, env') → (∀ v vs I' H', SR Z.K Z.cl g env' σ I' H' → Same I I' → AgsOk Z I' σ as (v :: vs) → spM Z.K Z.cl N np mf (v :: vs) H' Q E0) → tMeth C mn (spM Z.K Z.cl N np mf) [] E0 ta t σ H Q := by
  intro g env σ I H Q as env' R hm k
  unfold cRecv at hm
  cases e1 : m env with
  | none => rw [e1] at hm; cases hm
  | some p =>
    rw [e1] at hm
    simp only [Option.bind_some] at hm
    split at hm
    · rename_i hob
      cases e2 : a p.2 with
      | none => rw [e2] at hm; cases hm
      | some q =>
        rw [e2] at hm; cases hm
        refine h2 g env σ I H _ p.1 p.2 R e1 fun v I1 H1 R1 s1 rv => ?_
        obtain ⟨ks, xs, hd, hn⟩ := isObj_inv hob
        have rv2 := rv
        rw [hd] at rv2
        obtain ⟨b, C', dx, vs, rfl, hb, hC', ra, hl⟩ := rv2.ob_inv
        rw [hC] at hC'; cases hC'
        refine ⟨b, dx, _, rfl, R1.sub _ _ hb, lookup_out hn, ?_⟩
        exact a2 g p.2 σ I1 H1 _ q.1 q.2 R1 e2 fun vs I2 H2 R2 s2 os => by
          rw [List.append_nil]
          exact k _ vs I2 H2 R2 (s1.trans s2) (.cons (.imm (rv.mono s2)) os)
    · cases hm
theorem recvIo_ok {c : String} {mn : Str} {C : Addr} {N : List Str} {np : Nat} {mf : MS} {t : TA} {i : Nat} {a : MG} (hC : Z.cl c = some C) (a2 : SG Z t a) :
    ∀ (g : G) (env : En) (σ : St) (I H : Hp) (Q : VK) (as : List Ag) (env' : En), SR Z.K Z.cl g env σ I H → cRecvIo c mn i a env = some (as, env') → (∀ v vs I' H', SR Z.K Z.cl g env' σ I' H' → Same I I' → AgsOk Z I' σ as (v :: vs) → spM Z.K Z.cl N np mf (v :: vs) H' Q E0) → tMeth C mn (spM Z.K Z.cl N np mf) [] E0 (tVar i) t σ H Q := by
  intro g env σ I H Q as env' R hm k
  unfold cRecvIo at hm
  cases e1 : env[i]? with
  | none => rw [e1] at hm; cases hm
  | some s =>
    rw [e1] at hm
    simp only [Option.bind_some] at hm
    cases e3 : s.own? with
    | none => rw [e3] at hm; cases hm
    | some d =>
      rw [e3] at hm
      simp only [Option.bind_some] at hm
      split at hm
      · rename_i hob
        cases e2 : a env with
        | none => rw [e2] at hm; cases hm
        | some q =>
          rw [e2] at hm; cases hm
          obtain ⟨b, o, h3, h4, h5, h6⟩ := own_at R e1 e3
          obtain ⟨ks, xs, rfl, hn⟩ := isObj_inv hob
          obtain ⟨C', dx, vs, rfl, hC', ra, hl⟩ := h5.ob_inv
          rw [hC] at hC'; cases hC'
          refine ⟨.ref b, h3, b, dx, _, rfl, h4, lookup_out hn, ?_⟩
          exact a2 g env σ I H _ q.1 q.2 R e2 fun vs I2 H2 R2 s2 os => by
            rw [List.append_nil]
            exact k _ vs I2 H2 R2 s2 (.cons (.io h3) os)
      · cases hm
theorem ev_meth {c : String} {mn : Str} {N : List Str} {np : Nat} {mf : MS} {o e : Expr} {es : List Expr} {m : ME} {a : MG} {apos pos : Pos} (F : MtZ Z c mn N np mf) (ho : EV Z o m) (ha : AV Z (e :: es) a)
    (hst : ∀ env, starEach (e :: es) env = (false, eval e env) :: starEach es env := by intro _; rfl) (hpl : ∀ env, (backTo pos (starEach es env)).any (·.1) = false := by intro _; rfl)
    (ht : ∀ env, ∃ pl : Sem Bool, eval (.Call (.Attribute o mn apos) (e :: es) [] pos) env = (do
      let ov ← eval o env
      standAt apos.atName
      let (f, first) ← holding [ov] (getMethod ov mn pl)
      callWith pos f first (backTo pos (starEach (e :: es) env)) (backToKw pos (keywordEach [] env))) := by intro _; exact ⟨_, rfl⟩) :
    EV Z (.Call (.Attribute o mn apos) (e :: es) [] pos) (mCallV N np mf (cRecv c mn m a)) ∧ EF Z (.Call (.Attribute o mn apos) (e :: es) [] pos) (mCallF N np mf (cRecv c mn m a)) := by
  obtain ⟨C, f, fd, ps, hC, h1, h2, h3, h4⟩ := F.ex
  obtain ⟨ta, o1, o2⟩ := ho
  obtain ⟨t, a1, a2⟩ := ha
  have pe : ∀ X, InF Z X → PE X (.Call (.Attribute o mn apos) (e :: es) [] pos) (tMeth C mn (spM Z.K Z.cl N np mf) [] E0 ta t) := fun X i => by
    obtain ⟨pl, hpl2⟩ := ht X.env
    exact FnG.peM (pl := pl) (CX := CX0) (k := Z.k) (f := f) (fd := fd) (ps := ps) (E := E0) (sp := spM Z.K Z.cl N np mf) (by rw [i.prog, i.w, i.K, i.mg, i.base]; exact h3) i.room i.gd (o1 X i) (by rw [i.K]; exact h1) (by rw [i.K]; exact h2) (by rw [i.K]; exact h4) pass0 (a1 X i) (hst _) (hpl _) hpl2
  have q := meth_core (mn := mn) (mf := mf) (N := N) (np := np) (ta := ta) (t := t) hC (recv_ok (mn := mn) (mf := mf) (N := N) (np := np) hC o2 a2)
  exact ⟨⟨_, pe, q.1⟩, ⟨_, pe, q.2⟩⟩
theorem ev_methIo {c : String} {mn : Str} {N : List Str} {np : Nat} {mf : MS} {i : Nat} {x : Str} {p : Pos} {e : Expr} {es : List Expr} {a : MG} {apos pos : Pos} (F : MtZ Z c mn N np mf) (hN : Z.N[i]? = some x) (hv : Vis Z.sc x) (ha : AV Z (e :: es) a)
    (hd : (x == ("__debug__" : Str)) = false := by decide) (hcd : (x == ("__classdict__" : Str)) = false := by decide)
    (hst : ∀ env, starEach (e :: es) env = (false, eval e env) :: starEach es env := by intro _; rfl) (hpl : ∀ env, (backTo pos (starEach es env)).any (·.1) = false := by intro _; rfl)
    (ht : ∀ env, ∃ pl : Sem Bool, eval (.Call (.Attribute (.Name x p) mn apos) (e :: es) [] pos) env = (do
      let ov ← eval (.Name x p) env
      standAt apos.atName
      let (f, first) ← holding [ov] (getMethod ov mn pl)
      callWith pos f first (backTo pos (starEach (e :: es) env)) (backToKw pos (keywordEach [] env))) := by intro _; exact ⟨_, rfl⟩) :
    EV Z (.Call (.Attribute (.Name x p) mn apos) (e :: es) [] pos) (mCallV N np mf (cRecvIo c mn i a)) ∧ EF Z (.Call (.Attribute (.Name x p) mn apos) (e :: es) [] pos) (mCallF N np mf (cRecvIo c mn i a)) := by
  obtain ⟨C, f, fd, ps, hC, h1, h2, h3, h4⟩ := F.ex
  obtain ⟨t, a1, a2⟩ := ha
  have pe : ∀ X, InF Z X → PE X (.Call (.Attribute (.Name x p) mn apos) (e :: es) [] pos) (tMeth C mn (spM Z.K Z.cl N np mf) [] E0 (tVar i) t) := fun X k => by
    obtain ⟨pl, hpl2⟩ := ht X.env
    exact FnG.peM (pl := pl) (CX := CX0) (k := Z.k) (f := f) (fd := fd) (ps := ps) (E := E0) (sp := spM Z.K Z.cl N np mf) (by rw [k.prog, k.w, k.K, k.mg, k.base]; exact h3) k.room k.gd (pe_var (by rw [k.N]; exact hN) (visOf k hv) hd hcd) (by rw [k.K]; exact h1) (by rw [k.K]; exact h2) (by rw [k.K]; exact h4) pass0 (a1 X k) (hst _) (hpl _) hpl2
  have q := meth_core (mn := mn) (mf := mf) (N := N) (np := np) (ta := tVar i) (t := t) hC (recvIo_ok (mn := mn) (mf := mf) (N := N) (np := np) hC a2)
  exact ⟨⟨_, pe, q.1⟩, ⟨_, pe, q.2⟩⟩
/-! ### an instance is made -/
structure MkZ (Z : Zc) (x : Str) (c : String) (N : List Str) (np : Nat) (mf : MS) : Prop where
  ex : ∃ (k : Nat) (C f : Addr) (fd : FuncData) (ps : List Str), k + 1 ≤ Z.k ∧ Z.cl c = some C ∧ Z.mg x = some (.ref C) ∧ Mk Z.K C f ∧ FnG Z.P Z.w Z.K Z.mg Z.base CX0 k f fd ps (spM Z.K Z.cl N np mf) ∧ Binds Z.K fd ps []
theorem SR.push {K : PySem.W.Frag} {cl : String → Option Addr} {g : G} {env : En} {σ : St} {I H : Hp} {p : Addr} {o : HO} {d : D} (R : SR K cl g env σ I H) (n : New g env σ I H p o) (r : ObjRep K cl I d o) : SR K cl g (env ++ [.own d]) (σ ++ [some (.ref p)]) I H := by
  have get : ∀ (i : Nat) (s : Sl), (env ++ [Sl.own d])[i]? = some s → (i < σ.length ∧ env[i]? = some s ∧ (σ ++ [some (V.ref p)])[i]? = σ[i]?) ∨ (i = σ.length ∧ s = .own d ∧ (σ ++ [some (V.ref p)])[i]? = some (some (.ref p))) := fun i s h => by
    by_cases hi : i < env.length
    · rw [List.getElem?_append_left hi] at h
      exact .inl ⟨by rw [← R.len]; exact hi, h, List.getElem?_append_left (by rw [← R.len]; exact hi)⟩
    · rw [List.getElem?_append_right (by omega)] at h
      obtain ⟨h1, h2⟩ := List.getElem?_eq_some_iff.mp h
      have e : i = env.length := by simp at h1; omega
      subst e
      simp at h2
      refine .inr ⟨R.len, h2.symm, ?_⟩
      rw [R.len, List.getElem?_append_right (Nat.le_refl _)]; simp
  refine ⟨R.sub, R.i0, R.h0, R.hi, R.oh, by rw [List.length_append, List.length_append, R.len]; rfl, fun i s h => ?_, fun i j s s' a hne h1 h2 m1 m2 q1 q2 => ?_, fun a u hx => ?_, R.ex0, R.tb⟩
  · rcases get i s h with ⟨_, h1, h2⟩ | ⟨_, rfl, h2⟩
    · rw [h2]; exact R.at_ i s h1
    · exact ⟨_, h2, p, o, rfl, n.at_, r, n.i, n.h0⟩
  · have mt : s.top = true := by cases s <;> first | rfl | cases m1
    rcases get i s h1 with ⟨_, f1, f2⟩ | ⟨e1, rfl, f2⟩
    · rcases get j s' h2 with ⟨_, k1, k2⟩ | ⟨_, rfl, k2⟩
      · exact R.dis i j s s' a hne f1 k1 m1 m2 (by rw [← f2]; exact q1) (by rw [← k2]; exact q2)
      · rw [k2] at q2; cases q2
        rw [f2] at q1
        exact n.no i s f1 mt q1
    · rcases get j s' h2 with ⟨_, k1, k2⟩ | ⟨e2, rfl, k2⟩
      · rw [f2] at q1; cases q1
        rw [k2] at q2
        exact n.no j s' k1 m2 q2
      · exact hne (e1.trans e2.symm)
  · obtain ⟨h1, h2, h3⟩ := R.ex a u hx
    refine ⟨h1, h2, fun i s h ht => ?_⟩
    rcases get i s h with ⟨_, f1, f2⟩ | ⟨_, rfl, f2⟩
    · rw [f2]; exact h3 i s f1 ht
    · rw [f2]; intro z; cases z; exact n.x u hx
theorem SR.pop {K : PySem.W.Frag} {cl : String → Option Addr} {g : G} {env : En} {σ : St} {I H : Hp} {x : Option V} {d : D} (hl : env.length = σ.length + 1) (R : SR K cl g env (σ ++ [x]) I H) (hd : env[σ.length]? = some (.own d)) :
    ∃ p o, x = some (.ref p) ∧ SR K cl g (env.take σ.length) σ I H ∧ New g (env.take σ.length) σ I H p o ∧ ObjRep K cl I d o := by
  obtain ⟨y, hy, p, o, rfl, h1, h2, h3, h4⟩ := R.at_ _ _ hd
  have hx : x = some (.ref p) := by
    rw [List.getElem?_append_right (Nat.le_refl _)] at hy
    simpa using hy
  subst hx
  have low : ∀ (i : Nat) (s : Sl), (env.take σ.length)[i]? = some s → i < σ.length ∧ env[i]? = some s ∧ (σ ++ [some (V.ref p)])[i]? = σ[i]? := fun i s h => by
    obtain ⟨f1, f2⟩ := List.getElem?_eq_some_iff.mp h
    have f3 : i < σ.length := by rw [List.length_take] at f1; omega
    rw [List.getElem?_take_of_lt f3] at h
    exact ⟨f3, h, List.getElem?_append_left f3⟩
  refine ⟨p, o, rfl, ⟨R.sub, R.i0, R.h0, R.hi, R.oh, by rw [List.length_take]; omega, fun i s h => ?_, fun i j s s' a hne e1 e2 m1 m2 q1 q2 => ?_, fun a u hx => ?_, R.ex0, R.tb⟩, ⟨h1, h3, h4, fun i s h ht z => ?_, fun o' hx => ?_⟩, h2⟩
  · obtain ⟨_, f1, f2⟩ := low i s h
    rw [← f2]; exact R.at_ i s f1
  · obtain ⟨_, f1, f2⟩ := low i s e1
    obtain ⟨_, k1, k2⟩ := low j s' e2
    exact R.dis i j s s' a hne f1 k1 m1 m2 (by rw [f2]; exact q1) (by rw [k2]; exact q2)
  · obtain ⟨q1, q2, q3⟩ := R.ex a u hx
    refine ⟨q1, q2, fun i s h ht => ?_⟩
    obtain ⟨_, f1, f2⟩ := low i s h
    rw [← f2]; exact q3 i s f1 ht
  · obtain ⟨f0, f1, f2⟩ := low i s h
    exact R.dis _ i _ s p (by omega) hd f1 rfl ht hy (by rw [f2]; exact z)
  · exact (R.ex p o' hx).2.2 _ _ hd rfl hy
def mMake (c : String) (N : List Str) (np : Nat) (mf : MS) (a : MG) : ME := fun env => (a env).bind fun p => if p.1.length + 1 = np then (mCall N mf (fun _ => some (.io p.2.length :: p.1, p.2 ++ [.own (.obj c [] [])])) p.2).bind fun r => match r.1, r.2.1 with
    | .imm, .non => if r.2.2.length = p.2.length + 1 then match r.2.2[p.2.length]? with
      | some (.own d) => some (d, r.2.2.take p.2.length)
      | _ => none
      else none
    | _, _ => none
  else none
theorem AgsOk.grow {I : Hp} {σ : St} {x : Option V} : ∀ {as : List Ag} {vs : List V}, AgsOk Z I σ as vs → AgsOk Z I (σ ++ [x]) as vs
  | _, _, .nil => .nil
  | _, _, .cons o os => .cons (by
      cases o with
      | imm r => exact .imm r
      | bor h => exact .bor (by rw [List.getElem?_append_left (List.getElem?_eq_some_iff.mp h).1]; exact h)
      | io h => exact .io (by rw [List.getElem?_append_left (List.getElem?_eq_some_iff.mp h).1]; exact h)) (AgsOk.grow os)
theorem make_sf {c : String} {C : Addr} {N : List Str} {np : Nat} {mf : MS} {t : TA} {a : MG} (hC : Z.cl c = some C) (a2 : SG Z t a) : SF Z (tMake C (spM Z.K Z.cl N np mf) [] E0 t) (mMake c N np mf a) := by
  intro g env σ I H Q d env' R hm k
  unfold mMake at hm
  cases e1 : a env with
  | none => rw [e1] at hm; cases hm
  | some p =>
    obtain ⟨as, en⟩ := p
    rw [e1] at hm
    simp only [Option.bind_some] at hm
    split at hm
    · rename_i hnp
      cases e2 : mCall N mf (fun _ => some (.io en.length :: as, en ++ [.own (.obj c [] [])])) en with
      | none => rw [e2] at hm; cases hm
      | some r =>
        obtain ⟨md, d', e'⟩ := r
        rw [e2] at hm
        simp only [Option.bind_some] at hm
        split at hm
        · split at hm
          · rename_i hlen
            split at hm
            · rename_i d2 hlast
              cases hm
              obtain ⟨as', en', ss, fl, cenv, h1, h2, h3, h4, h5, h6⟩ := mCall_inv e2
              cases h1
              refine a2 g env σ I H _ as en R e1 fun vs I1 H1 R1 s1 os => ?_
              intro x dx hx hdx hne
              rw [List.append_nil]
              have R2 := R1.alloc hdx (.own x)
              have hx2 : (upd H1 dx (.own x)) x = none := by rw [upd_ne (Ne.symm hne)]; exact hx
              have R3 := R2.alloc hx2 (.ins C dx [])
              have n3 := R2.new (o := .ins C dx []) hx2
              have ob : ObjRep Z.K Z.cl I1 (.obj c [] []) (.ins C dx []) := .obj (ks := []) (vs := []) hC .nil rfl
              have R4 := R3.push n3 ob
              have os2 : AgsOk Z I1 (σ ++ [some (.ref x)]) (.io en.length :: as) (.ref x :: vs) := .cons (.io (by rw [R1.len, List.getElem?_append_right (Nat.le_refl _)]; simp)) os.grow
              refine call_post R4 os2 h2 h3 h4 h5 h6 (by rw [List.length_cons]; exact hnp) fun Ic Hc v Rf s hr => ⟨hr.non_inv, ?_⟩
              have hl2 : e'.length = σ.length + 1 := by rw [hlen, R1.len]
              rw [R1.len] at hlast
              obtain ⟨p, o, hp, R5, n5, r5⟩ := SR.pop hl2 Rf hlast
              cases hp
              rw [R1.len] at k
              exact k x o Ic Hc R5 (s1.trans s) n5 r5
            · cases hm
          · cases hm
        · cases hm
    · cases hm
theorem ef_make {x : Str} {c : String} {N : List Str} {np : Nat} {mf : MS} {e : Expr} {es : List Expr} {a : MG} {p pos : Pos} (F : MkZ Z x c N np mf) (hg : GlZ Z x) (ha : AV Z (e :: es) a) (hdb : (x == ("__debug__" : Str)) = false := by decide)
    (he : ∀ env, starEach (e :: es) env = (false, eval e env) :: starEach es env := by intro _; rfl) (hpl : ∀ env, (backTo pos (starEach es env)).any (·.1) = false := by intro _; rfl) : EF Z (.Call (.Name x p) (e :: es) [] pos) (mMake c N np mf a) := by
  obtain ⟨k, C, f, fd, ps, hk, hC, h1, h2, h3, h4⟩ := F.ex
  obtain ⟨t, a1, a2⟩ := ha
  exact ⟨_, fun X i => FnG.peK (CX := CX0) (k := k) (f := f) (fd := fd) (ps := ps) (E := E0) (sp := spM Z.K Z.cl N np mf) (by rw [i.prog, i.w, i.K, i.mg, i.base]; exact h3) (i.room.mono hk) i.gd (by rw [i.K]; exact h2) (glOf i hg) (by rw [i.mg]; exact h1) (by rw [i.K]; exact h4) pass0 (a1 X i) hdb (he _) (hpl _), make_sf hC a2⟩
/-! ### o.f = e -/
def putK1 (f : Str) : List Str → List Str
  | [] => [f]
  | k :: ks => if k = f then k :: ks else k :: putK1 f ks
def putD1 (f : Str) (d : D) : List Str → List D → List D
  | k :: ks, x :: xs => if k = f then d :: xs else x :: putD1 f d ks xs
  | _, _ => [d]
theorem putF_rep {K : PySem.W.Frag} {cl : String → Option Addr} {I : Hp} {f : Str} {d : D} {v : V} (r : Rep K cl I d v) : ∀ {ks : List Str} {xs : List D} {vs : List V}, Reps K cl I xs vs → ks.length = xs.length →
    ∃ ws, putF f v (ks.zip vs) = (putK1 f ks).zip ws ∧ Reps K cl I (putD1 f d ks xs) ws ∧ (putK1 f ks).length = (putD1 f d ks xs).length
  | [], [], [], _, _ => ⟨[v], rfl, .cons r .nil, rfl⟩
  | k :: ks, x :: xs, u :: vs, .cons r1 r2, h => by
    rw [List.zip_cons_cons]
    unfold putF putK1 putD1
    by_cases e : k = f
    · rw [if_pos e, if_pos e, if_pos e]
      exact ⟨v :: vs, rfl, .cons r r2, h⟩
    · rw [if_neg e, if_neg e, if_neg e]
      obtain ⟨ws, h1, h2, h3⟩ := putF_rep (f := f) r r2 (by simpa using h)
      exact ⟨u :: ws, by rw [h1]; rfl, .cons r1 h2, by simp [h3]⟩
def mSetF (c : String) (f : Str) (i : Nat) (e : ME) : MS := fun env => (e env).bind fun p => (p.2[i]?.bind Sl.own?).bind fun d => match d with
  | .obj c' ks xs => if c' = c ∧ ks.length < 1000 ∧ xs.length < 1000 then some (.nx (putS p.2 i (.obj c (putK1 f ks) (putD1 f p.1 ks xs)))) else none
  | _ => none
theorem sv_setF {c : String} {f : Str} {i : Nat} {x : Str} {e : Expr} {m : ME} {p p1 pos : Pos} (hc : ∀ C, Z.cl c = some C → Cls Z.K C ∧ NoAttr Z.K C f) (hN : Z.N[i]? = some x) (hv : Vis Z.sc x) (h : EV Z e m) (hd : (x == ("__debug__" : Str)) = false := by decide) (hcd : (x == ("__classdict__" : Str)) = false := by decide)
    (hs : ∀ env, swapsWith e (some (.Attribute (.Name x p) f p1)) pos.line env = pure false := by intro _; rfl) : SV Z (.Assign [.Attribute (.Name x p) f p1] e pos) (mSetF c f i m) := by
  obtain ⟨t, q1, q2⟩ := h
  refine ⟨sFld Z.K (tVar i) t f, fun X k => by have q := ps_fld (X := X) (f := f) (pos' := p1) (pos := pos) (pe_var (pos := p) (by rw [k.N]; exact hN) (visOf k hv) hd hcd) (q1 X k) (hs _); rw [k.K] at q; exact q, fun g env σ I H D fl R hm k => ?_⟩
  unfold mSetF at hm
  cases e1 : m env with
  | none => rw [e1] at hm; cases hm
  | some r =>
    obtain ⟨y, en⟩ := r
    rw [e1] at hm; simp only [Option.bind_some] at hm
    cases e2 : en[i]? with
    | none => rw [e2] at hm; cases hm
    | some s =>
      rw [e2] at hm; simp only [Option.bind_some] at hm
      cases e3 : s.own? with
      | none => rw [e3] at hm; cases hm
      | some d =>
        rw [e3] at hm; simp only [Option.bind_some] at hm
        split at hm
        · rename_i c' ks xs
          split at hm
          · rename_i hcc
            obtain ⟨rfl, hk, hxl⟩ := hcc
            cases hm
            refine q2 g env σ I H _ y en R e1 fun v I1 H1 R1 s1 rv => ?_
            obtain ⟨a, o, h3, h4, h5, h6⟩ := own_at R1 e2 e3
            obtain ⟨C, dx, vs, rfl, hC, ra, hl⟩ := h5.ob_inv
            obtain ⟨ws, w1, w2, w3⟩ := putF_rep (f := f) rv ra hl
            refine ⟨.ref a, h3, a, C, dx, _, rfl, h4, (hc C hC).1, (hc C hC).2, by rw [List.length_zip]; omega, ?_⟩
            rw [w1]
            have R2 := R1.mutate e2 e3 h3 (.obj hC w2 w3 : ObjRep Z.K Z.cl I1 (.obj c' (putK1 f ks) (putD1 f y ks xs)) (.ins C dx ((putK1 f ks).zip ws)))
            have e5 : putS en i (.obj c' (putK1 f ks) (putD1 f y ks xs)) = en.set i (s.put (.obj c' (putK1 f ks) (putD1 f y ks xs))) := by unfold putS; rw [e2]
            rw [e5] at k
            exact k σ I1 _ R2 s1
          · cases hm
        · cases hm
end
end Q
namespace Q
open PySem L2
section
variable {Z : Zc}
/-! ## {k: v for ..} -/
def hasK (k : Key) : List Key → Bool
  | [] => false
  | q :: ks => decide (q = k) || hasK k ks
def putKK (k : Key) (ks : List Key) : List Key := if hasK k ks = true then ks else ks ++ [k]
def repl (k : Key) (d : D) : List Key → List D → List D
  | q :: ks, x :: xs => (if q = k then d else x) :: repl k d ks xs
  | _, xs => xs
def putKD (k : Key) (d : D) (ks : List Key) (xs : List D) : List D := if hasK k ks = true then repl k d ks xs else xs ++ [d]
theorem repl_rep {K : PySem.W.Frag} {cl : String → Option Addr} {I : Hp} {k : Key} {d : D} {v : V} (r : Rep K cl I d v) : ∀ {ks : List Key} {xs : List D} {vs : List V}, Reps K cl I xs vs → ks.length = xs.length →
    ∃ ws, (ks.zip vs).map (fun kv => if kv.1 = k then (kv.1, v) else kv) = ks.zip ws ∧ Reps K cl I (repl k d ks xs) ws ∧ ks.length = (repl k d ks xs).length
  | [], [], [], _, _ => ⟨[], rfl, .nil, rfl⟩
  | q :: ks, x :: xs, u :: vs, .cons r1 r2, h => by
    obtain ⟨ws, h1, h2, h3⟩ := repl_rep (k := k) r r2 (by simpa using h)
    rw [List.zip_cons_cons, List.map_cons, h1]
    unfold repl
    by_cases e : q = k
    · rw [if_pos e]
      exact ⟨v :: ws, by simp [e], .cons (by rw [if_pos e]; exact r) h2, by simp [h3]⟩
    · rw [if_neg e]
      exact ⟨u :: ws, by simp [e], .cons (by rw [if_neg e]; exact r1) h2, by simp [h3]⟩
theorem hasK_any {k : Key} : ∀ {ks : List Key} {vs : List V}, ks.length = vs.length → ((ks.zip vs).any fun kv => decide (kv.1 = k)) = hasK k ks
  | [], _, _ => rfl
  | q :: ks, [], h => by cases h
  | q :: ks, v :: vs, h => by
    rw [List.zip_cons_cons, List.any_cons, hasK_any (ks := ks) (vs := vs) (by simpa using h)]
    rfl
theorem putK_rep {K : PySem.W.Frag} {cl : String → Option Addr} {I : Hp} {k : Key} {d : D} {v : V} {ks : List Key} {xs : List D} {vs : List V} (r : Rep K cl I d v) (rs : Reps K cl I xs vs) (h : ks.length = xs.length) :
    ∃ ws, putK (ks.zip vs) k v = (putKK k ks).zip ws ∧ Reps K cl I (putKD k d ks xs) ws ∧ (putKK k ks).length = (putKD k d ks xs).length := by
  have hl : ks.length = vs.length := h.trans rs.length
  unfold putK putKK putKD
  rw [hasK_any hl]
  by_cases e : hasK k ks = true
  · rw [if_pos e, if_pos e, if_pos e]
    exact repl_rep r rs h
  · rw [if_neg e, if_neg e, if_neg e]
    refine ⟨vs ++ [v], ?_, rs.append (.cons r .nil), by simp [h]⟩
    rw [List.zip_append hl]; rfl
theorem dc_it {J : It} {n : Nat} {G : Hp → Prop} {Y : Nat → Hp → V → Hp → Prop} (w : Walk J n G Y) {g : TG} {tt : TT} {tk tv : TE} {vs : List Nat} {σ : St} {H1 : Hp} {D : Addr} {Qd : Hp → Prop} (Pv : Nat → Hp → Prop) (h0 : Pv 0 (upd H1 D (.dK []))) (hG : ∀ i H, i ≤ n → Pv i H → G H)
    (hs : ∀ i x H H', i < n → Pv i H → Y i H x H' → g x (wipe σ vs) H' fun σ2 H2 => wipe σ2 vs = wipe σ vs ∧ tt σ2 H2 fun b H3 =>
      if b = true then tk σ2 H3 fun y H4 => tv σ2 H4 fun z H5 => ∃ kvs k, y = kV k ∧ H5 D = some (.dK kvs) ∧ kvs.length < sizeLine ∧ Pv (i + 1) (upd H5 D (.dK (putK kvs k z))) else Pv (i + 1) H3) (hd : ∀ H, Pv n H → Qd H) :
    ∃ W : Nat → Nat → Hp → Prop, (∃ m, W 0 m (upd H1 D (.dK []))) ∧ ∀ i m H, W i m H →
      (J.stop i H ∧ Qd H) ∨ (J.go i H ∧ ∃ Nx : Hp → Prop, (∀ H', Nx H' → ∃ m', m' < m ∧ W (i + 1) m' H') ∧ ∀ x H', J.yld i H x H' → g x (wipe σ vs) H' fun σ2 H2 => wipe σ2 vs = wipe σ vs ∧ tt σ2 H2 fun b H3 =>
        if b = true then tk σ2 H3 fun y H4 => tv σ2 H4 fun z H5 => ∃ kvs k, y = kV k ∧ H5 D = some (.dK kvs) ∧ kvs.length < sizeLine ∧ Nx (upd H5 D (.dK (putK kvs k z))) else Nx H3) := by
  refine ⟨fun i m H => m = n - i ∧ i ≤ n ∧ Pv i H, ⟨n, by simp, Nat.zero_le _, h0⟩, ?_⟩
  rintro i m H ⟨rfl, hi, p⟩
  have q := hG i H hi p
  by_cases hlt : i < n
  · refine .inr ⟨w.goes i H hlt q, Pv (i + 1), fun H' p' => ⟨n - (i + 1), by omega, rfl, hlt, p'⟩, fun x H' y => hs i x H H' hlt p (w.yields i H x H' hlt q y)⟩
  · have e : i = n := by omega
    subst e
    exact .inl ⟨w.stops H q, hd H p⟩
def dcLoop (gf : D → En → Option En) (mt : MT) (mk mv : ME) (vs : List Nat) : List D → List Key → List D → En → Option (List Key × List D × En)
  | [], ks, xs, env => some (ks, xs, env)
  | d :: ds, ks, xs, env => (gf d (wipeE env vs)).bind fun e1 => (mt e1).bind fun p =>
    if p.1 then (mk p.2).bind fun q => (q.1.key?).bind fun k => (mv q.2).bind fun r => if xs.length < sizeLine then dcLoop gf mt mk mv vs ds (putKK k ks) (putKD k r.1 ks xs) r.2 else none
    else dcLoop gf mt mk mv vs ds ks xs p.2
def mDc (vs : List Nat) (mi : MI) (gf : D → En → Option En) (mt : MT) (mk mv : ME) : ME := fun env => (mi env).bind fun p => if calmAt p.2 vs = true then (dcLoop gf mt mk mv vs p.1 [] [] p.2).map fun q => (.dic q.1 q.2.1, backE p.2 (wipeE q.2.2 vs) vs) else none
theorem dc_sf {wi : TI} {gt : TG} {tt : TT} {tk tv : TE} {vs : List Nat} {mi : MI} {gf : D → En → Option En} {mt : MT} {mk mv : ME} {ix : List Nat} (hnd : vs.Nodup) (hix : ∀ i ∈ ix, i ∈ vs) (i2 : SI Z wi mi)
    (g2 : ∀ (g : G) (env : En) (σ : St) (I H : Hp) (d : D) (v : V) (Q : St → Hp → Prop) (env' : En), SR Z.K Z.cl g env σ I H → Rep Z.K Z.cl I d v → gf d env = some env' →
      (∀ σ', SR Z.K Z.cl g env' σ' I H → (∀ vs, (∀ i ∈ ix, i ∈ vs) → wipe σ' vs = wipe σ vs) → Q σ' H) → gt v σ H Q)
    (t2 : ST Z tt mt) (k2 : SE Z tk mk) (v2 : SE Z tv mv) : SF Z (tDc wi gt tt tk tv vs) (mDc vs mi gf mt mk mv) := by
  intro g env σ I H Q d env' R hm k
  unfold mDc at hm
  cases e1 : mi env with
  | none => rw [e1] at hm; cases hm
  | some p =>
    obtain ⟨ds, en⟩ := p
    rw [e1] at hm; simp only [Option.bind_some] at hm
    split at hm
    · rename_i hcalm
      cases e3 : dcLoop gf mt mk mv vs ds [] [] en with
      | none => rw [e3] at hm; cases hm
      | some q =>
        obtain ⟨kf, fin, enf⟩ := q
        rw [e3] at hm; cases hm
        refine i2 g env σ I H _ ds en R e1 fun J I1 H1 R1 s1 wd L hL => ?_
        obtain ⟨Gd, Y, hw, hgd, hy⟩ := wd
        have hX : ∀ u, (L, u) ∉ g.X := (R1.new (o := .dK []) hL).x
        refine dc_it hw (fun i H' => ∃ env' I' ks acc av, SR Z.K Z.cl (g.beside L (.dK (ks.zip av))) (wipeE env' vs) (wipe σ vs) I' H' ∧ Same I1 I' ∧ Reps Z.K Z.cl I' acc av ∧ ks.length = acc.length ∧ dcLoop gf mt mk mv vs (ds.drop i) ks acc env' = some (kf, fin, enf))
          ⟨en, I1, [], [], [], ((R1.alloc hL _).put (R1.new hL)).wipe vs, Same.refl _, .nil, rfl, e3⟩ (fun i H' _ ⟨env', I', ks, acc, av, R', s', _⟩ => hgd I' H' s' R'.sub) ?_ ?_
        · rintro i x H2 H3 hlt ⟨env2, I2, ks, acc, av, R2, s2, ra, hlen0, hm2⟩ hyld
          have hd : ds[i]? = some ds[i] := List.getElem?_eq_getElem hlt
          have hdrop : ds.drop i = ds[i] :: ds.drop (i + 1) := List.drop_eq_getElem_cons hlt
          rw [hdrop] at hm2
          obtain ⟨I3, R3, s3, r3⟩ := hy i ds[i] _ _ _ I2 H2 x H3 hd s2 R2 hyld
          unfold dcLoop at hm2
          cases q1 : gf ds[i] (wipeE env2 vs) with
          | none => rw [q1] at hm2; cases hm2
          | some en3 =>
            rw [q1] at hm2; simp only [Option.bind_some] at hm2
            refine g2 _ _ _ I3 H3 ds[i] x _ en3 R3 r3 q1 fun σ4 R4 w4 => ?_
            have hwp : wipe σ4 vs = wipe σ vs := by
              rw [w4 vs hix]
              have ww : ∀ (ws us : List Nat) (τ : St), (∀ u ∈ us, u ∈ ws) → wipe (wipe τ us) ws = wipe τ ws := by
                intro ws us
                induction us with
                | nil => intro τ _; rfl
                | cons u us ih =>
                  intro τ hu
                  show wipe ((wipe τ us).set u none) ws = wipe τ ws
                  rw [wipe_set (hu u List.mem_cons_self), ih τ fun v hv => hu v (List.mem_cons_of_mem _ hv)]
              exact ww vs vs σ fun _ h => h
            refine ⟨hwp, ?_⟩
            cases q2 : mt en3 with
            | none => rw [q2] at hm2; cases hm2
            | some p2 =>
              obtain ⟨b, en4⟩ := p2
              rw [q2] at hm2; simp only [Option.bind_some] at hm2
              refine t2 _ _ _ I3 H3 _ b en4 R4 q2 fun I5 H5 R5 s5 => ?_
              cases b with
              | false =>
                simp only [Bool.false_eq_true, if_false] at hm2 ⊢
                have R6 := R5.wipe vs
                rw [hwp] at R6
                exact ⟨en4, I5, ks, acc, av, R6, (s2.trans s3).trans s5, ra.mono (s3.trans s5), hlen0, hm2⟩
              | true =>
                simp only [if_true] at hm2 ⊢
                cases q3 : mk en4 with
                | none => rw [q3] at hm2; cases hm2
                | some p3 =>
                  obtain ⟨y, en5⟩ := p3
                  rw [q3] at hm2; simp only [Option.bind_some] at hm2
                  cases q4 : y.key? with
                  | none => rw [q4] at hm2; cases hm2
                  | some ky =>
                    rw [q4] at hm2; simp only [Option.bind_some] at hm2
                    cases q5 : mv en5 with
                    | none => rw [q5] at hm2; cases hm2
                    | some p4 =>
                      obtain ⟨z, en6⟩ := p4
                      rw [q5] at hm2; simp only [Option.bind_some] at hm2
                      split at hm2
                      · rename_i hlen
                        refine k2 _ _ _ I5 H5 _ y en5 R5 q3 fun v I6 H6 R6 s6 rv => ?_
                        refine v2 _ _ _ I6 H6 _ z en6 R6 q5 fun u I7 H7 R7 s7 ru => ?_
                        have ra7 := ra.mono (((s3.trans s5).trans s6).trans s7)
                        obtain ⟨ws, w1, w2, w3⟩ := putK_rep (k := ky) ru ra7 hlen0
                        refine ⟨_, ky, key_rep (H := H7) q4 (.inl rv), (R7.ex L _ List.mem_cons_self).1, by rw [List.length_zip]; have := ra.length; omega, en6, I7, putKK ky ks, putKD ky z ks acc, ws, ?_, (((s2.trans s3).trans s5).trans s6).trans s7, w2, w3, hm2⟩
                        have R8 := (R7.exSet (o' := .dK ((putKK ky ks).zip ws)) hX).wipe vs
                        rw [hwp] at R8
                        rw [w1]
                        exact R8
                      · cases hm2
        · rintro H2 ⟨env2, I2, ks, acc, av, R2, s2, ra, hlen0, hm2⟩
          rw [List.drop_length] at hm2
          cases hm2
          have R3 := SR.back R1 vs hnd hcalm R2 s2
          obtain ⟨R4, n4⟩ := R3.take hX
          exact k L _ I2 H2 R4 (s1.trans s2) n4 (.dic ra hlen0)
    · cases hm
theorem ef_dc {kx vx tg iter : Expr} {ifs : List Expr} {scope : Scope} {own : List (Str × Nat)} {pos : Pos} {mi : MI} {ix : List Nat} {gf : D → En → Option En} {mt : MT} {mk mv : ME} (hi : IV Z tg iter mi) (ok : BlkOk Z.N Z.sc scope own) (hg : GV (ZB Z scope) tg ix gf) (ht : CV (ZB Z scope) ifs mt)
    (hk : EV (ZB Z scope) kx mk) (hv : EV (ZB Z scope) vx mv) (hnd : (own.map (·.2)).Nodup := by decide) (hix : ∀ i ∈ ix, i ∈ own.map (·.2) := by decide) (hs : ∀ env x, foldedSetIterable iter env x = pure x := by intro _ _; rfl) : EF Z (.DictComp kx vx [⟨tg, iter, ifs, 0⟩] scope pos) (mDc (own.map (·.2)) mi gf mt mk mv) := by
  obtain ⟨wi, i1, i2⟩ := hi
  obtain ⟨gt, g1, g2⟩ := hg
  obtain ⟨tt, t1, t2⟩ := ht
  obtain ⟨tk, k1, k2⟩ := hk
  obtain ⟨tv, v1, v2⟩ := hv
  exact ⟨_, fun X k => pe_dc k.calm k.nd (i1 X k) (by rw [k.N, k.sc]; exact ok) (fun s H C cl fp => g1 _ (inB k s H C cl fp)) (fun s H C cl fp => t1 _ (inB k s H C cl fp)) (fun s H C cl fp => k1 _ (inB k s H C cl fp)) (fun s H C cl fp => v1 _ (inB k s H C cl fp)) (hs _), dc_sf hnd hix i2 g2 t2 k2 v2⟩
section
open PySem.Spec PyProof.Rows
variable {X : Cx}
theorem ps_putDc {slot : Nat} {nm : Str} {pn : Pos} {kx vx tg iter : Expr} {ifs : List Expr} {scope : Scope} {own : List (Str × Nat)} {cp sp : Pos} {wi : TI} {gg : TG} {tt : TT} {tk tv : TE} (hcalm : X.calm = true) (hnod : X.N.Nodup)
    (hslot : X.N[slot]? = some nm) (hloc : X.env.scope.names.lookup nm = some .local) (hswap : swapsWith (.DictComp kx vx [⟨tg, iter, ifs, 0⟩] scope cp) (some (.Name nm pn)) sp.line X.env = pure true)
    (hit : PI X tg iter wi) (hblk : BlkOk X.N X.env.scope scope own)
    (h1 : ∀ s H C cl fp, PG (X.blk s H scope (compEnvC scope cl C X.env) fp) tg gg) (h2 : ∀ s H C cl fp, PTs (X.blk s H scope (compEnvC scope cl C X.env) fp) ifs tt)
    (h3 : ∀ s H C cl fp, PE (X.blk s H scope (compEnvC scope cl C X.env) fp) kx tk) (h4 : ∀ s H C cl fp, PE (X.blk s H scope (compEnvC scope cl C X.env) fp) vx tv)
    (hfold : ∀ v, foldedSetIterable iter X.env v = pure v) :
    PS X (.Assign [.Name nm pn] (.DictComp kx vx [⟨tg, iter, ifs, 0⟩] scope cp) sp) (tAsg (tDc wi gg tt tk tv (own.map (·.2))) (gName slot)) := by
  constructor
  intro pins s σ H D J hq
  rw [exec_Assign_Name_used _ _ _ _ hswap]
  refine wpAny_bind (wpAny_standAt (wpAny_bind ?_))
  show wpAny _ X.A (do let _ ← comprehension (.DictComp kx vx [⟨tg, iter, ifs, 0⟩] scope cp) scope X.env (firstIterPos [⟨tg, iter, ifs, 0⟩] cp) newDict false (eval iter X.env) (some (assign (.Name nm pn) X.env))) _ _ s
  have hq' : tDc wi gg tt tk tv (own.map (·.2)) σ H (fun x H1 => gName slot x σ H1 D.nx) := hq
  have core := dc_core (Qf := fun _ s' => SP X pins D .next s') hcalm hnod J hit hblk h1 h2 h3 h4 hfold hq' (use := some (assign (.Name nm pn) X.env)) (pos := cp) (pos' := firstIterPos [⟨tg, iter, ifs, 0⟩] cp) (fun L C s' m H' J' qq hn fr => by
    show wpAny _ _ (assign (.Name nm pn) X.env (.ref L)) _ _ _
    refine wpAny_assign_Name (store_ok2 (v := V.ref L) J' hnod hslot (.inl hloc) rfl (fun s2 J2 hs2 => ?_) (.inr hloc))
    obtain ⟨a, sb, ha⟩ := hs2
    obtain ⟨r0, r1, r2, r3, r4, r5⟩ := fr
    have hne : C ≠ a := ha.elim (fun z => z ▸ r1) (fun z e => r4 nm a z e.symm)
    exact ⟨m, hn.sameBut sb hne, fun h9 sb9 => ⟨_, H', J2.turned (t' := s2.toks) (fun b o hb e => (sb9.2 b hb).trans e) r0 r1 r3 r4 r5, qq⟩⟩)
  exact wpAny_bind (thn core fun _ s' hq2 => wpAny_pure (wpAny_pure hq2))
end
theorem swap_dc {kx vx : Expr} {gs : List Comprehension} {scope : Scope} {cp pn : Pos} {nm : Str} {l : Nat} {env : Env} (hk : env.scope.kind = .function) (hy : env.scope.names.lookup nm = some .local) (hl : (pn.line == cp.line) = true)
    (ha : (scope.names.any fun q => q.1 == nm && (q.2 == .local || q.2 == .cell)) = false) : swapsWith (.DictComp kx vx gs scope cp) (some (.Name nm pn)) l env = pure true := by
  have e1 : env.kindOf nm = some .local := hy
  have e2 : env.blockKind = .function := by unfold Env.blockKind; rw [hk]; rfl
  unfold swapsWith
  simp only [e1, e2, Expr.pos, hl]
  have ha' : (scope.names.any fun (n, k) => n == nm && (k == .local || k == .cell)) = false := ha
  rw [ha']
  rfl
theorem sv_asgDc {i : Nat} {y : Str} {py : Pos} {kx vx tg iter : Expr} {ifs : List Expr} {scope : Scope} {own : List (Str × Nat)} {pos spos : Pos} {mi : MI} {ix : List Nat} {gf : D → En → Option En} {mt : MT} {mk mv : ME} (hN : Z.N[i]? = some y) (hy : Z.sc.names.lookup y = some .local)
    (hk : Z.sc.kind = .function) (hl : (py.line == pos.line) = true := by rfl) (ha : (scope.names.any fun q => q.1 == y && (q.2 == .local || q.2 == .cell)) = false := by decide +kernel)
    (hi : IV Z tg iter mi) (ok : BlkOk Z.N Z.sc scope own) (hg : GV (ZB Z scope) tg ix gf) (ht : CV (ZB Z scope) ifs mt)
    (hkx : EV (ZB Z scope) kx mk) (hvx : EV (ZB Z scope) vx mv) (hnd : (own.map (·.2)).Nodup := by decide) (hix : ∀ i ∈ ix, i ∈ own.map (·.2) := by decide) (hs : ∀ env x, foldedSetIterable iter env x = pure x := by intro _ _; rfl) :
    SV Z (.Assign [.Name y py] (.DictComp kx vx [⟨tg, iter, ifs, 0⟩] scope pos) spos) (mAsgF i (mDc (own.map (·.2)) mi gf mt mk mv)) := by
  obtain ⟨wi, i1, i2⟩ := hi
  obtain ⟨gt, g1, g2⟩ := hg
  obtain ⟨tt, t1, t2⟩ := ht
  obtain ⟨tk, k1, k2⟩ := hkx
  obtain ⟨tv, v1, v2⟩ := hvx
  refine ⟨_, fun X k => ps_putDc k.calm k.nd (by rw [k.N]; exact hN) (by rw [k.sc]; exact hy) (swap_dc (by rw [k.sc]; exact hk) (by rw [k.sc]; exact hy) hl ha) (i1 X k) (by rw [k.N, k.sc]; exact ok) (fun s H C cl fp => g1 _ (inB k s H C cl fp)) (fun s H C cl fp => t1 _ (inB k s H C cl fp)) (fun s H C cl fp => k1 _ (inB k s H C cl fp)) (fun s H C cl fp => v1 _ (inB k s H C cl fp)) (hs _), fun g env σ I H D fl R hm k => ?_⟩
  unfold mAsgF at hm
  cases q1 : mDc (own.map (·.2)) mi gf mt mk mv env with
  | none => rw [q1] at hm; cases hm
  | some r =>
    rw [q1] at hm
    simp only [Option.bind_some] at hm
    split at hm
    · rename_i hi
      cases hm
      exact dc_sf hnd hix i2 g2 t2 k2 v2 g env σ I H _ r.1 r.2 R q1 fun a o I1 H1 R1 s1 n ro => k _ I1 H1 (R1.setOwn (by rw [← R1.len]; exact hi) n ro) s1
    · cases hm
end
end Q
namespace Q
open PySem L2
section
variable {Z : Zc}
/-! -n -/
def mNeg (a : ME) : ME := fun env => (a env).bind fun p => match p.1 with
  | .int i => some (.int (-i), p.2)
  | _ => none
theorem ev_neg {e : Expr} {m : ME} {pos : Pos} (h : EV Z e m) : EV Z (.UnaryOp .USub e pos) (mNeg m) := by
  obtain ⟨t, h1, h2⟩ := h
  refine ⟨_, fun X i => pe_un un_neg (h1 X i), fun g env σ I H Q d env' R hm k => ?_⟩
  unfold mNeg at hm
  cases e1 : m env with
  | none => rw [e1] at hm; cases hm
  | some p =>
    obtain ⟨x, en⟩ := p
    rw [e1] at hm
    simp only [Option.bind_some] at hm
    cases x <;> first | cases hm | skip
    exact h2 g env σ I H _ _ _ R e1 fun v I1 H1 R1 s1 rv => ⟨_, rv.int_inv, k _ I1 H1 R1 s1 .int⟩
end
/-- one program, as its top has left it -/
structure Pc where
  P : Program
  w : World
  K : PySem.W.Frag
  mg : Str → Option Value
  base : Heap
  cl : String → Option Addr
abbrev Pc.z (c : Pc) (k : Nat) (N : List Str) (sc : Scope) : Zc := ⟨c.P, c.w, c.K, c.mg, c.base, N, sc, k, c.cl, true⟩
structure FnC (c : Pc) (k : Nat) (x : Str) (N : List Str) (np : Nat) (mf : MS) : Prop where
  ex : ∃ (f : Addr) (fd : FuncData) (ps : List Str), FnG c.P c.w c.K c.mg c.base CX0 k f fd ps (spM c.K c.cl N np mf) ∧ c.mg x = some (.ref f) ∧ PySem.W.keepIn c.K (.ref f) = true ∧ Binds c.K fd ps []
structure MtC (c : Pc) (k : Nat) (cn : String) (m : Str) (N : List Str) (np : Nat) (mf : MS) : Prop where
  ex : ∃ (C f : Addr) (fd : FuncData) (ps : List Str), c.cl cn = some C ∧ Cls c.K C ∧ Meth c.K C m f ∧ FnG c.P c.w c.K c.mg c.base CX0 k f fd ps (spM c.K c.cl N np mf) ∧ Binds c.K fd ps []
structure MkC (c : Pc) (k : Nat) (x : Str) (cn : String) (N : List Str) (np : Nat) (mf : MS) : Prop where
  ex : ∃ (C f : Addr) (fd : FuncData) (ps : List Str), c.cl cn = some C ∧ c.mg x = some (.ref C) ∧ Mk c.K C f ∧ FnG c.P c.w c.K c.mg c.base CX0 k f fd ps (spM c.K c.cl N np mf) ∧ Binds c.K fd ps []
section
variable {c : Pc} {j k np : Nat} {x m : Str} {cn : String} {N M : List Str} {mf : MS} {sc s1 : Scope}
theorem FnC.z (F : FnC c j x M np mf) (h : j ≤ k) : FnZ (c.z k N sc) x M np mf := let ⟨f, fd, ps, h1, h2⟩ := F.ex; ⟨f, fd, ps, h1.mono h, h2⟩
theorem FnC.zb (F : FnC c j x M np mf) (h : j ≤ k) : FnZ (ZB (c.z k N sc) s1) x M np mf := let ⟨f, fd, ps, h1, h2⟩ := F.ex; ⟨f, fd, ps, h1.mono h, h2⟩
theorem MtC.z (F : MtC c j cn m M np mf) (h : j ≤ k) : MtZ (c.z k N sc) cn m M np mf := let ⟨C, f, fd, ps, q1, q2, q3, h1, h2⟩ := F.ex; ⟨C, f, fd, ps, q1, q2, q3, h1.mono h, h2⟩
theorem MtC.zb (F : MtC c j cn m M np mf) (h : j ≤ k) : MtZ (ZB (c.z k N sc) s1) cn m M np mf := let ⟨C, f, fd, ps, q1, q2, q3, h1, h2⟩ := F.ex; ⟨C, f, fd, ps, q1, q2, q3, h1.mono h, h2⟩
theorem MkC.z (F : MkC c j x cn M np mf) (h : j + 1 ≤ k) : MkZ (c.z k N sc) x cn M np mf := let ⟨C, f, fd, ps, q1, q2, q3, h1, h2⟩ := F.ex; ⟨j, C, f, fd, ps, h, q1, q2, q3, h1, h2⟩
theorem MkC.zb (F : MkC c j x cn M np mf) (h : j + 1 ≤ k) : MkZ (ZB (c.z k N sc) s1) x cn M np mf := let ⟨C, f, fd, ps, q1, q2, q3, h1, h2⟩ := F.ex; ⟨j, C, f, fd, ps, h, q1, q2, q3, h1, h2⟩
end
theorem tabKey_ne (x s : String) (h : s.toList.getLast? ≠ some '#') (e : tabKey x = s) : False := by
  apply h
  rw [← e]
  unfold tabKey
  rw [String.toList_append]
  show (x.toList ++ ['#']).getLast? = _
  simp
/-- what the law's def is handed -/
theorem spLaw_of {K : PySem.W.Frag} {cl : String → Option Addr} {N : List Str} {m : MS} {a : Addr} {ns : List Int} {H : Hp} {Q : VK} {E : XK} {env' : En} {md : Md} (hN : N.length = N.length) (hT : ∀ b, IsTab cl b → GxR.TabG H b) (hS0 : ∃ J, Same J H ∧ (∀ b, IsTab cl b → J b = none) ∧ SqL K J a (ns.map V.int))
    (hm : m (Sl.imm (.scr (ns.map D.int)) :: List.replicate (N.length - 1) Sl.un) = some (.ret .imm (.bl true) env')) (hQ : ∀ H', Q (.bl true) H') : spM K cl N 1 m [.ref a] H Q E := by
  obtain ⟨J, hJ, hJt, hS⟩ := hS0
  have rs : ∀ (l : List Int), Reps K cl J (l.map D.int) (l.map V.int) := fun l => by
    induction l with
    | nil => exact .nil
    | cons x l ih => exact .cons .int ih
  refine ⟨rfl, ⟨J, H, [], []⟩, _, J, _, ⟨hJ, Same.refl _, fun a o h _ _ => h, fun a o _ h => h, (fun a h => by cases h), ?_, fun i s h => ?_, ?_, (fun a o h => by cases h), (fun a o h => by cases h), fun b hb => ⟨hJt b hb, hT b hb, let ⟨ps, h, _⟩ := hT b hb; ⟨_, h⟩⟩⟩, hm, ?_⟩
  · unfold L2.start; simp
  · cases i with
    | zero =>
      cases h
      exact ⟨_, rfl, .ref a, rfl, .scr hS (rs ns)⟩
    | succ i =>
      rw [List.getElem?_cons_succ, List.getElem?_replicate] at h
      split at h
      · rename_i hlt
        cases h
        refine ⟨none, ?_, trivial⟩
        unfold L2.start
        rw [List.getElem?_append_right (by simp), List.getElem?_replicate]
        simp only [List.length_map, List.length_cons, List.length_nil, Nat.zero_add, Nat.add_sub_cancel]
        rw [if_pos hlt]
      · cases h
  · intro i j s s' a' hne h1 h2 m1 m2
    have : s.mut = false := by
      cases i with
      | zero => cases h1; rfl
      | succ i =>
        rw [List.getElem?_cons_succ, List.getElem?_replicate] at h1
        split at h1
        · cases h1; rfl
        · cases h1
    rw [this] at m1; cases m1
  · intro σ' I' H' v R s r
    cases r.bl_inv
    exact hQ H'
end Q
namespace Q
open PySem L2
section
variable {Z : Zc}
/-! ## {} and d[k] = v of an own dict -/
def mDic0 : ME := fun env => some (.dic [] [], env)
theorem ef_dic0 {pos : Pos} : EF Z (.Dict [] [] pos) mDic0 := by
  refine ⟨_, fun X i => pe_dnewK, fun g env σ I H Q d env' R hm k => ?_⟩
  cases hm
  exact fun q hq => k q _ I _ (R.alloc hq _) (Same.refl I) (R.new hq) (ObjRep.dic (ks := []) (xs := []) (vs := []) .nil rfl)
def ownD (env : En) (i : Nat) : Option (List Key × List D) := (env[i]?).bind fun s => (s.own?).bind fun d => match d with
  | .dic ks xs => some (ks, xs)
  | _ => none
theorem ownD_inv {env : En} {i : Nat} {ks : List Key} {xs : List D} (h : ownD env i = some (ks, xs)) : ∃ s, env[i]? = some s ∧ s.own? = some (.dic ks xs) := by
  unfold ownD at h
  cases e : env[i]? with
  | none => rw [e] at h; cases h
  | some s =>
    rw [e] at h
    simp only [Option.bind_some] at h
    cases e2 : s.own? with
    | none => rw [e2] at h; cases h
    | some d =>
      rw [e2] at h
      simp only [Option.bind_some] at h
      cases d <;> first | (cases h; exact ⟨s, rfl, e2⟩) | cases h
theorem own_dict {g : G} {env : En} {σ : St} {I H : Hp} {i : Nat} {ks : List Key} {xs : List D} (R : SR Z.K Z.cl g env σ I H) (h : ownD env i = some (ks, xs)) :
    ∃ s a vs, env[i]? = some s ∧ s.own? = some (.dic ks xs) ∧ σ[i]? = some (some (.ref a)) ∧ H a = some (.dK (ks.zip vs)) ∧ Reps Z.K Z.cl I xs vs ∧ ks.length = xs.length := by
  obtain ⟨s, h1, h2⟩ := ownD_inv h
  obtain ⟨a, o, h3, h4, h5, h6⟩ := own_at R h1 h2
  obtain ⟨vs, rfl, r, l⟩ := h5.dic_inv
  exact ⟨s, a, vs, h1, h2, h3, h4, r, l⟩
def mSetD (i : Nat) (e j : ME) : MS := fun env => (e env).bind fun p => (ownD p.2 i).bind fun _ => (j p.2).bind fun q => (ownD q.2 i).bind fun kx => (q.1.key?).bind fun k =>
  if kx.2.length < sizeLine then some (.nx (putS q.2 i (.dic (putKK k kx.1) (putKD k p.1 kx.1 kx.2)))) else none
theorem sv_setD {i : Nat} {x : Str} {e j : Expr} {me mj : ME} {p p1 pos : Pos} (hN : Z.N[i]? = some x) (hv : Vis Z.sc x) (he : EV Z e me) (hj : EV Z j mj) (hd : (x == ("__debug__" : Str)) = false := by decide) (hcd : (x == ("__classdict__" : Str)) = false := by decide)
    (hs : ∀ env, swapsWith e (some (.Subscript (.Name x p) j p1)) pos.line env = pure false := by intro _; rfl) :
    SV Z (.Assign [.Subscript (.Name x p) j p1] e pos) (mSetD i me mj) := by
  obtain ⟨t, q1, q2⟩ := he
  obtain ⟨u, j1, j2⟩ := hj
  refine ⟨_, fun X k => ps_dput (huOf k) (pe_var (by rw [k.N]; exact hN) (visOf k hv) hd hcd) (j1 X k) (q1 X k) (hs _), fun g env σ I H D fl R hm k => ?_⟩
  unfold mSetD at hm
  cases e1 : me env with
  | none => rw [e1] at hm; cases hm
  | some r =>
    obtain ⟨y, en⟩ := r
    rw [e1] at hm; simp only [Option.bind_some] at hm
    cases e2 : ownD en i with
    | none => rw [e2] at hm; cases hm
    | some r0 =>
      obtain ⟨ks0, xs0⟩ := r0
      rw [e2] at hm; simp only [Option.bind_some] at hm
      cases e3 : mj en with
      | none => rw [e3] at hm; cases hm
      | some r =>
        obtain ⟨n, en2⟩ := r
        rw [e3] at hm; simp only [Option.bind_some] at hm
        cases e4 : ownD en2 i with
        | none => rw [e4] at hm; cases hm
        | some r1 =>
          obtain ⟨ks, xs⟩ := r1
          rw [e4] at hm; simp only [Option.bind_some] at hm
          cases e5 : n.key? with
          | none => rw [e5] at hm; cases hm
          | some q =>
            rw [e5] at hm; simp only [Option.bind_some] at hm
            split at hm
            · rename_i hl
              cases hm
              refine q2 g env σ I H _ y en R e1 fun v I1 H1 R1 s1 rv => ?_
              obtain ⟨s0, a0, vs0, h1, h2, h3, h4, _, _⟩ := own_dict R1 e2
              refine ⟨.ref a0, h3, ?_⟩
              refine j2 g en σ I1 H1 _ _ en2 R1 e3 fun w I2 H2 R2 s2 rw' => ?_
              obtain ⟨s, a, vs, h5, h6, h7, h8, h9, h10⟩ := own_dict R2 e4
              rw [h3] at h7
              cases h7
              obtain ⟨ws, h11, h12, h13⟩ := putK_rep (k := q) (rv.mono s2) h9 h10
              have hk : w = kV q := key_rep (H := H2) e5 (.inl rw')
              subst hk
              have hzl : (ks.zip vs).length < sizeLine := by rw [List.length_zip, ← h9.length, h10, Nat.min_self]; exact hl
              refine ⟨a0, _, rfl, DPut.k h8 hzl, ?_⟩
              rw [h11]
              have R3 := R2.mutate h5 h6 h3 (.dic h12 h13)
              have e6 : putS en2 i (.dic (putKK q ks) (putKD q y ks xs)) = en2.set i (s.put (.dic (putKK q ks) (putKD q y ks xs))) := by unfold putS; rw [h5]
              rw [e6] at k
              exact k σ I2 _ R3 (s1.trans s2)
            · cases hm
end
end Q
namespace Q
open PySem L2
section
variable {Z : Zc}
/-! ## methods of a text -/
def mM0 (f : Str → Option D) (a : ME) : ME := fun env => (a env).bind fun p => match p.1 with
  | .str z => (f z).map fun d => (d, p.2)
  | _ => none
def RuleM0 (r : V → List V → Hp → VK → Prop) (f : Str → Option D) : Prop := ∀ (z : Str) (d : D) (K : PySem.W.Frag) (cl : String → Option Addr) (I H : Hp) (Q : VK), f z = some d → (∀ v, Rep K cl I d v → Q v H) → r (.str z) [] H Q
theorem ev_m0 {id : String} {name : Str} {o : Expr} {apos pos : Pos} {r : V → List V → Hp → VK → Prop} {f : Str → Option D} {mo : ME} (slot : Slot "str" name id) (ty : typeOf (.builtin id) = pure (.type "method_descriptor")) (rule : ∀ X : Cx, MtR X id r) (ok : RuleM0 r f) (ho : EV Z o mo)
    (hbase : ∀ env, attributeBase o name env (eval o env) = eval o env := by intro _; rfl) (hline : (apos.endLine == pos.line) = true := by rfl) : EV Z (.Call (.Attribute o name apos) [] [] pos) (mM0 f mo) := by
  obtain ⟨t, h1, h2⟩ := ho
  refine ⟨_, fun X i => pe_m0 slot ty (rule X) (h1 X i) (hbase _) hline, fun g env σ I H Q d env' R hm k => ?_⟩
  unfold mM0 at hm
  cases e1 : mo env with
  | none => rw [e1] at hm; cases hm
  | some p =>
    obtain ⟨x, en⟩ := p
    rw [e1] at hm; simp only [Option.bind_some] at hm
    cases x <;> first | cases hm | skip
    rename_i z
    dsimp only at hm
    cases e2 : f z with
    | none => rw [e2] at hm; cases hm
    | some y =>
      rw [e2] at hm; cases hm
      refine h2 g env σ I H _ _ _ R e1 fun v I1 H1 R1 s1 rv => ?_
      cases rv.str_inv
      exact ⟨⟨z, rfl⟩, ok z d Z.K Z.cl I1 H1 _ e2 fun v hv => k v I1 H1 R1 s1 hv⟩
def fUpper : Str → Option D := fun z => if z.length ≤ 5592405 then some (.str (Txt.upper z)) else none
def fIslower : Str → Option D := fun z => some (.bl (Txt.islower z))
theorem ev_upper {o : Expr} {apos pos : Pos} {mo : ME} (ho : EV Z o mo) (hbase : ∀ env, attributeBase o "upper" env (eval o env) = eval o env := by intro _; rfl) (hline : (apos.endLine == pos.line) = true := by rfl) : EV Z (.Call (.Attribute o "upper" apos) [] [] pos) (mM0 fUpper mo) :=
  ev_m0 F.slot_str_upper F.type_str_upper (fun X => mt_upper) (fun z d K cl I H Q h k => by
    unfold fUpper at h
    split at h
    · rename_i hl; cases h; exact ⟨z, rfl, rfl, hl, k _ .str⟩
    · cases h) ho hbase hline
theorem ev_islower {o : Expr} {apos pos : Pos} {mo : ME} (ho : EV Z o mo) (hbase : ∀ env, attributeBase o "islower" env (eval o env) = eval o env := by intro _; rfl) (hline : (apos.endLine == pos.line) = true := by rfl) : EV Z (.Call (.Attribute o "islower" apos) [] [] pos) (mM0 fIslower mo) :=
  ev_m0 F.slot_str_islower F.type_str_islower (fun X => mt_islower) (fun z d K cl I H Q h k => by cases h; exact ⟨z, rfl, rfl, trivial, k _ .bl⟩) ho hbase hline
def mM1 (f : Str → Str → Option D) (a b : ME) : ME := fun env => (a env).bind fun p => (b p.2).bind fun q => match p.1, q.1 with
  | .str x, .str y => (f x y).map fun d => (d, q.2)
  | _, _ => none
def RuleM1 (r : V → List V → Hp → VK → Prop) (f : Str → Str → Option D) : Prop := ∀ (x y : Str) (d : D) (K : PySem.W.Frag) (cl : String → Option Addr) (I H : Hp) (Q : VK), f x y = some d → (∀ v, Rep K cl I d v → Q v H) → r (.str x) [.str y] H Q
def RuleM1N (r : V → List V → Hp → VK → Prop) (f : Str → Str → Option D) : Prop := ∀ (x y : Str) (d : D) (K : PySem.W.Frag) (cl : String → Option Addr) (I H : Hp) (Q : VK), f x y = some d → (∀ p o, H p = none → ObjRep K cl I d o → Q (.ref p) (upd H p o)) → r (.str x) [.str y] H Q
theorem mM1_inv {f : Str → Str → Option D} {a b : ME} {env env' : En} {d : D} (h : mM1 f a b env = some (d, env')) : ∃ x e1 y, a env = some (.str x, e1) ∧ b e1 = some (.str y, env') ∧ f x y = some d := by
  unfold mM1 at h
  obtain ⟨⟨d1, e1⟩, h1, h⟩ := Option.bind_eq_some_iff.mp h
  obtain ⟨⟨d2, e2⟩, h2, h⟩ := Option.bind_eq_some_iff.mp h
  cases d1 with
  | str x =>
    cases d2 with
    | str y =>
      obtain ⟨z, h3, h4⟩ := Option.map_eq_some_iff.mp h
      cases h4
      exact ⟨x, e1, y, h1, h2, h3⟩
    | _ => cases h
  | _ => cases h
theorem ev_m1 {id : String} {name : Str} {o e : Expr} {apos pos : Pos} {r : V → List V → Hp → VK → Prop} {f : Str → Str → Option D} {mo me : ME} (slot : Slot "str" name id) (ty : typeOf (.builtin id) = pure (.type "method_descriptor")) (rule : ∀ X : Cx, MtR X id r) (ok : RuleM1 r f) (ho : EV Z o mo) (he : EV Z e me)
    (hs : ∀ env, starEach [e] env = [(false, eval e env)] := by intro _; rfl) (hbase : ∀ env, attributeBase o name env (eval o env) = eval o env := by intro _; rfl) (hline : (apos.endLine == pos.line) = true := by rfl) : EV Z (.Call (.Attribute o name apos) [e] [] pos) (mM1 f mo me) := by
  obtain ⟨t, h1, h2⟩ := ho
  obtain ⟨u, j1, j2⟩ := he
  refine ⟨_, fun X i => pe_m1 slot ty (rule X) (h1 X i) (j1 X i) (hs _) (hbase _) hline, fun g env σ I H Q d env' R hm k => ?_⟩
  obtain ⟨x, e1, y, q1, q2, q3⟩ := mM1_inv hm
  refine h2 g env σ I H _ _ _ R q1 fun v I1 H1 R1 s1 rv => ?_
  cases rv.str_inv
  refine ⟨⟨x, rfl⟩, j2 g e1 σ I1 H1 _ _ _ R1 q2 fun w I2 H2 R2 s2 rw' => ?_⟩
  cases rw'.str_inv
  exact ok x y d Z.K Z.cl I2 H2 _ q3 fun v hv => k v I2 H2 R2 (s1.trans s2) hv
theorem ef_m1 {id : String} {name : Str} {o e : Expr} {apos pos : Pos} {r : V → List V → Hp → VK → Prop} {f : Str → Str → Option D} {mo me : ME} (slot : Slot "str" name id) (ty : typeOf (.builtin id) = pure (.type "method_descriptor")) (rule : ∀ X : Cx, MtR X id r) (ok : RuleM1N r f) (ho : EV Z o mo) (he : EV Z e me)
    (hs : ∀ env, starEach [e] env = [(false, eval e env)] := by intro _; rfl) (hbase : ∀ env, attributeBase o name env (eval o env) = eval o env := by intro _; rfl) (hline : (apos.endLine == pos.line) = true := by rfl) : EF Z (.Call (.Attribute o name apos) [e] [] pos) (mM1 f mo me) := by
  obtain ⟨t, h1, h2⟩ := ho
  obtain ⟨u, j1, j2⟩ := he
  refine ⟨_, fun X i => pe_m1 slot ty (rule X) (h1 X i) (j1 X i) (hs _) (hbase _) hline, fun g env σ I H Q d env' R hm k => ?_⟩
  obtain ⟨x, e1, y, q1, q2, q3⟩ := mM1_inv hm
  refine h2 g env σ I H _ _ _ R q1 fun v I1 H1 R1 s1 rv => ?_
  cases rv.str_inv
  refine ⟨⟨x, rfl⟩, j2 g e1 σ I1 H1 _ _ _ R1 q2 fun w I2 H2 R2 s2 rw' => ?_⟩
  cases rw'.str_inv
  exact ok x y d Z.K Z.cl I2 H2 _ q3 fun p o hp ho => k p o I2 _ (R2.alloc hp _) (s1.trans s2) (R2.new hp) ho
def fCount : Str → Str → Option D := fun x y => some (.int (Txt.count x y))
theorem ev_count {o e : Expr} {apos pos : Pos} {mo me : ME} (ho : EV Z o mo) (he : EV Z e me) (hs : ∀ env, starEach [e] env = [(false, eval e env)] := by intro _; rfl) (hbase : ∀ env, attributeBase o "count" env (eval o env) = eval o env := by intro _; rfl) (hline : (apos.endLine == pos.line) = true := by rfl) :
    EV Z (.Call (.Attribute o "count" apos) [e] [] pos) (mM1 fCount mo me) :=
  ev_m1 F.slot_str_count F.type_str_count (fun X => mt_count) (fun x y d K cl I H Q h k => by cases h; exact ⟨x, y, rfl, rfl, k _ .int⟩) ho he hs hbase hline
theorem reps_strs {K : PySem.W.Frag} {cl : String → Option Addr} {I : Hp} : ∀ ys : List Str, Reps K cl I (ys.map .str) (ys.map V.str)
  | [] => .nil
  | _ :: ys => .cons .str (reps_strs ys)
def fSplit : Str → Str → Option D := fun x y => if (y.length == 0) = false ∧ x.length + 2 ≤ sizeLine then some (.lst ((Txt.split x y).map .str)) else none
theorem ef_split {o e : Expr} {apos pos : Pos} {mo me : ME} (ho : EV Z o mo) (he : EV Z e me) (hs : ∀ env, starEach [e] env = [(false, eval e env)] := by intro _; rfl) (hbase : ∀ env, attributeBase o "split" env (eval o env) = eval o env := by intro _; rfl) (hline : (apos.endLine == pos.line) = true := by rfl) :
    EF Z (.Call (.Attribute o "split" apos) [e] [] pos) (mM1 fSplit mo me) :=
  ef_m1 F.slot_str_split F.type_str_split (fun X => mt_split) (fun x y d K cl I H Q h k => by
    unfold fSplit at h
    split at h
    · rename_i hl
      cases h
      exact ⟨x, y, rfl, rfl, hl.1, hl.2, fun p hp => k p _ hp (.lst (reps_strs _))⟩
    · cases h) ho he hs hbase hline
end
end Q
namespace Q
open PySem L2
section
variable {Z : Zc}
/-! ## sorted(..) of whole numbers; sep.join(..) -/
def ordI (ns : List Int) : List Int := ns.mergeSort (fun a b => decide (a ≤ b))
theorem ordI_eq {ns ns' : List Int} (hp : ns'.Perm ns) (hs : ns'.Pairwise (· ≤ ·)) : ns' = ordI ns := by
  have h1 : (ordI ns).Pairwise (· ≤ ·) := by
    have := List.pairwise_mergeSort (le := fun a b : Int => decide (a ≤ b)) (fun a b c h1 h2 => by simp at *; omega) (fun a b => by simp; omega) ns
    exact this.imp fun h => by simpa using h
  exact List.Perm.eq_of_pairwise (fun a b _ _ h1 h2 => by omega) hs h1 (hp.trans (List.mergeSort_perm ns _).symm)
def dSorted : List D → Option D
  | [.lst ds] => (intsD ds).map fun ns => .lst ((ordI ns).map .int)
  | _ => none
theorem reps_ints {K : PySem.W.Frag} {cl : String → Option Addr} {I : Hp} : ∀ ns : List Int, Reps K cl I (ns.map .int) (ns.map V.int)
  | [] => .nil
  | _ :: ns => .cons .int (reps_ints ns)
theorem ok_sorted : RuleCN Z (rSortedI Z.K) dSorted := by
  intro I H xs z vs Q s rs h k
  unfold dSorted at h
  split at h
  · rename_i ds
    cases e2 : intsD ds with
    | none => rw [e2] at h; cases h
    | some ns =>
      rw [e2] at h
      cases h
      obtain ⟨v, rfl, r⟩ := rs.one
      obtain ⟨a, us, rfl, h1, h2⟩ := r.lst s
      have e3 := ints_rep e2 h2
      subst e3
      refine ⟨a, ns, rfl, SqL.of h1, fun ns' p hp hs hn => ?_⟩
      rw [ordI_eq hp hs]
      exact k p _ hn (.lst (reps_ints _))
  · cases h
theorem ef_sorted {e : Expr} {m : En → Option (List Ls × En)} {p pos : Pos} (hg : GlZ Z "sorted") (hm : Z.mg "sorted" = none) (ha : AL Z [e] m)
    (he : ∀ env, starEach [e] env = (false, eval e env) :: starEach [] env := by intro _; rfl) (hpl : ∀ env, (backTo pos (starEach [] env)).any (·.1) = false := by intro _; rfl) : EF Z (.Call (.Name "sorted" p) [e] [] pos) (mBi dSorted m) :=
  ef_callB (fun X h => by have := @cr_sortedI X; rw [h.K] at this; exact this) ok_sorted hg hm (by decide +kernel) ha (by decide) (by decide) he hpl
def strsD : List D → Option (List Str)
  | [] => some []
  | .str z :: ds => (strsD ds).map fun zs => z :: zs
  | _ => none
theorem strs_rep {K : PySem.W.Frag} {cl : String → Option Addr} {I : Hp} : ∀ {ds : List D} {zs : List Str} {us : List V}, strsD ds = some zs → Reps K cl I ds us → us = zs.map V.str
  | [], zs, us, h, r => by cases h; cases r; rfl
  | d :: ds, zs, us, h, r => by
    cases d with
    | str z =>
      unfold strsD at h
      obtain ⟨zs', h1, rfl⟩ := Option.map_eq_some_iff.mp h
      cases r with
      | cons r1 r2 => cases r1.str_inv; rw [strs_rep h1 r2]; rfl
    | _ => cases h
def fJoin (x : Str) (d : D) : Option D := (d.items?).bind fun ds => (strsD ds).bind fun zs => if (zs.map (·.length)).sum + zs.length * x.length ≤ 16777216 then some (.str (Txt.join x zs)) else none
def mJoin (a : ME) (b : ML) : ME := fun env => (a env).bind fun p => (b p.2).bind fun q => match p.1 with
  | .str x => (q.1.get q.2).bind fun d => (fJoin x d).map fun z => (z, q.2)
  | _ => none
def rJoinE (K : PySem.W.Frag) : V → List V → Hp → VK → Prop := fun x xs H Q => ∃ a p, ∃ ys : List Str, x = .str a ∧ xs = [.ref p] ∧ (SqL K H p (ys.map V.str) ∨ SqT K H p (ys.map V.str)) ∧ (ys.map (·.length)).sum + ys.length * a.length ≤ 16777216 ∧ Q (.str (Txt.join a ys)) H
theorem ev_join {o e : Expr} {apos pos : Pos} {mo : ME} {me : ML} (ho : EV Z o mo) (he : LV Z e me) (hs : ∀ env, starEach [e] env = [(false, eval e env)] := by intro _; rfl) (hbase : ∀ env, attributeBase o "join" env (eval o env) = eval o env := by intro _; rfl) (hline : (apos.endLine == pos.line) = true := by rfl) :
    EV Z (.Call (.Attribute o "join" apos) [e] [] pos) (mJoin mo me) := by
  obtain ⟨t, h1, h2⟩ := ho
  obtain ⟨u, j1, j2⟩ := he
  refine ⟨tM1 (rJoinE Z.K) t u, fun X i => by have q := pe_join (h1 X i) (j1 X i) (hs _) (hbase _) hline; rw [i.K] at q; exact q, fun g env σ I H Q d env' R hm k => ?_⟩
  unfold mJoin at hm
  obtain ⟨⟨d1, e1⟩, q1, hm⟩ := Option.bind_eq_some_iff.mp hm
  obtain ⟨⟨l, e2⟩, q2, hm⟩ := Option.bind_eq_some_iff.mp hm
  cases d1 with
  | str x =>
    obtain ⟨dd, q3, hm⟩ := Option.bind_eq_some_iff.mp hm
    obtain ⟨z, q4, q5⟩ := Option.map_eq_some_iff.mp hm
    cases q5
    unfold fJoin at q4
    obtain ⟨ds, q6, q4⟩ := Option.bind_eq_some_iff.mp q4
    obtain ⟨zs, q7, q4⟩ := Option.bind_eq_some_iff.mp q4
    split at q4
    · rename_i hl
      cases q4
      refine h2 g env σ I H _ _ _ R q1 fun v I1 H1 R1 s1 rv => ?_
      cases rv.str_inv
      refine ⟨⟨x, rfl⟩, j2 g e1 σ I1 H1 _ _ _ R1 q2 fun w I2 H2 R2 s2 ow => ?_⟩
      have rb : Rbs Z I2 H2 [dd] [w] := lsGet_rbs (ls := [l]) R2 (.cons ow .nil) (by simp only [lsGet]; dsimp only at q3; rw [q3]; rfl)
      obtain ⟨w', hw, r⟩ := rb.one
      cases hw
      obtain ⟨a, us, rfl, h3, h4⟩ := r.items R2.sub q6
      have h5 := strs_rep q7 h4
      subst h5
      exact ⟨x, a, zs, rfl, rfl, h3, hl, k _ I2 H2 R2 (s1.trans s2) .str⟩
    · cases q4
  | _ => cases hm
/-! ## xs.reverse() of an own list -/
theorem reps_rev {K : PySem.W.Frag} {cl : String → Option Addr} {I : Hp} : ∀ {ds : List D} {vs : List V}, Reps K cl I ds vs → Reps K cl I ds.reverse vs.reverse
  | [], _, .nil => .nil
  | d :: ds, _, .cons r rs => by rw [List.reverse_cons, List.reverse_cons]; exact (reps_rev rs).append (.cons r .nil)
def mRev (i : Nat) : MS := fun env => (ownL env i).map fun xs => .nx (putS env i (.lst xs.reverse))
theorem sv_reverse {i : Nat} {x : Str} {p p1 cpos pos : Pos} (hN : Z.N[i]? = some x) (hv : Vis Z.sc x) (hd : (x == ("__debug__" : Str)) = false := by decide) (hcd : (x == ("__classdict__" : Str)) = false := by decide)
    (hbase : ∀ env, attributeBase (.Name x p) "reverse" env (eval (.Name x p) env) = eval (.Name x p) env := by intro _; rfl) (hline : (p1.endLine == cpos.line) = true := by rfl)
    (hsw : ∀ env, swapsWith (.Call (.Attribute (.Name x p) "reverse" p1) [] [] cpos) none pos.line env = pure false := by intro _; rfl) :
    SV Z (.Expr (.Call (.Attribute (.Name x p) "reverse" p1) [] [] cpos) pos) (mRev i) := by
  refine ⟨tDrop (tBM0 Z.K "list" rReverse (tVar i)), fun X k => ?_, fun g env σ I H D fl R hm k => ?_⟩
  · have q := pe_bm0 (X := X) (name := "reverse") (apos := p1) (cpos := cpos) PySem.F.plainAttrs_list PySem.F.slot_list_reverse PySem.F.type_list_reverse mt_reverse (pe_var (by rw [k.N]; exact hN) (visOf k hv) hd hcd) (hbase _) hline
    rw [k.K] at q
    exact ps_expr q (hsw _)
  · unfold mRev at hm
    obtain ⟨xs, e0, e1⟩ := Option.map_eq_some_iff.mp hm
    cases e1
    obtain ⟨s, a, vs, h1, h2, h3, h4, h5⟩ := own_list R e0
    refine ⟨.ref a, h3, .inl ⟨rfl, _, SqL.of h4⟩, a, vs, rfl, rfl, h4, ?_⟩
    have R2 := R.mutate h1 h2 h3 (.lst (reps_rev h5))
    have e5 : putS env i (.lst xs.reverse) = env.set i (s.put (.lst xs.reverse)) := by unfold putS; rw [h1]
    rw [e5] at k
    exact k σ I _ R2 (Same.refl I)
end
end Q
namespace Q
open PySem L2
section
variable {Z : Zc}
/-! ## a ^ b; repr(x) of plain data -/
def dXor : D → D → Option D
  | .int a, .int b => some (.int (Builtin.bitXor a b))
  | _, _ => none
theorem ok_xor : RuleOk Z (rI0 fun i j => .int (Builtin.bitXor i j)) dXor := by
  intro I H x y z vx vy Q s rx ry h k
  unfold dXor at h
  split at h
  · cases h; cases rx.int; cases ry.int; exact ⟨_, _, rfl, rfl, k _ .int⟩
  · cases h
def PyOk (p : PyData) : Bool := p.showable && !p.hasDict && decide (p.depth ≤ 60) && decide (p.shown.length ≤ sizeLine)
theorem PyOk.all {p : PyData} (h : PyOk p = true) : p.showable = true ∧ p.hasDict = false ∧ p.depth ≤ 60 ∧ p.shown.length ≤ sizeLine := by
  unfold PyOk at h
  simp only [Bool.and_eq_true, Bool.not_eq_true', decide_eq_true_eq] at h
  exact ⟨h.1.1.1, h.1.1.2, h.1.2, h.2⟩
def dRepr : List D → Option D
  | [x] => (toP x).bind fun p => if PyOk p = true then some (.str p.shown) else none
  | _ => none
def rRepr (K : PySem.W.Frag) : List V → Hp → VK → Prop := fun xs H Q => ∃ x p, xs = [x] ∧ Dp K H x p ∧ PyOk p = true ∧ Q (.str p.shown) H
theorem cr_repr {X : Cx} (h : InF Z X) : CallR X (.builtin "repr") (rRepr Z.K) := by
  rw [← h.K]
  intro pins s σ H xs us Q I r hh
  obtain ⟨x, p, rfl, hp, ok, q⟩ := hh
  obtain ⟨h1, h2, h3, h4⟩ := PyOk.all ok
  cases r with
  | cons rv rt =>
    rename_i u ut
    cases rt
    have un := h.room.units
    cases hp with
    | non => cases rv; exact PySem.P.repr_of_none ⟨.str _, H, I.tok _, ⟨_, rfl⟩, by simpa only [PyData.shown] using q⟩
    | bl b => cases rv; exact PySem.P.repr_of_bool ⟨.str _, H, I.tok _, ⟨_, rfl⟩, by simpa only [PyData.shown] using q⟩
    | int i => obtain ⟨t, rfl⟩ := rv; exact PySem.P.repr_of_int (by simpa [PyData.showable] using h1) ⟨.str _, H, I.tok _, ⟨_, rfl⟩, by simpa only [PyData.shown] using q⟩
    | str z => obtain ⟨t, rfl⟩ := rv; exact PySem.P.repr_of_str ⟨.str _, H, I.tok _, ⟨_, rfl⟩, by simpa only [PyData.shown] using q⟩ (by simpa only [PyData.shown] using h4)
    | lst hs ha =>
      obtain ⟨as, rd⟩ := Dp.reads I _ _ _ (.lst hs ha) rv
      cases rv
      exact repr_of_reads' rd h1 (PyData.noDict_hsm h2) h.gd (by omega) (fun _ _ e => e) (fun h' u tk k => ⟨.str _, H, I.kept k, ⟨_, rfl⟩, q⟩) h4
    | tup hs ha =>
      obtain ⟨as, rd⟩ := Dp.reads I _ _ _ (.tup hs ha) rv
      cases rv
      exact repr_of_reads' rd h1 (PyData.noDict_hsm h2) h.gd (by omega) (fun _ _ e => e) (fun h' u tk k => ⟨.str _, H, I.kept k, ⟨_, rfl⟩, q⟩) h4
theorem ok_repr : RuleC Z (rRepr Z.K) dRepr := by
  intro I H xs z vs Q s rs h k
  unfold dRepr at h
  split at h
  · rename_i x
    obtain ⟨p, e1, h⟩ := Option.bind_eq_some_iff.mp h
    split at h
    · rename_i ok
      cases h
      obtain ⟨v, rfl, r⟩ := rs.one
      exact ⟨v, p, rfl, r.dp s e1, ok, k _ .str⟩
    · cases h
  · cases h
end
end Q
namespace Q
open PySem L2
/-! ## Dicts whose keys are tuples of whole numbers and truth values -/
def nk (k : List Int) : NestedKey := .tup (k.map .num)
theorem nk_inj {k k' : List Int} (h : nk k = nk k') : k = k' := by
  unfold nk at h
  injection h with h
  exact (List.map_inj_right (fun a b e => by injection e)).mp h
theorem hashes_num (w : World) : ∀ k : List Int, NestedKey.hashes w (k.map .num) = k.map hashInt
  | [] => by simp [NestedKey.hashes]
  | i :: k => by simp [NestedKey.hashes, NestedKey.hash, hashes_num w k]
theorem nk_hash (w : World) (k : List Int) : (nk k).hash w = hashN k := by
  unfold nk hashN
  rw [NestedKey.hash, hashes_num]
theorem depth_num : ∀ k : List Int, NestedKey.depthAll (k.map .num) = 0
  | [] => by simp [NestedKey.depthAll]
  | i :: k => by simp [NestedKey.depthAll, NestedKey.depth, depth_num k]
theorem nk_depth (k : List Int) : (nk k).depth ≤ 8 := by
  unfold nk
  rw [NestedKey.depth, depth_num]; omega
def tri : List (List Int) → List Addr → List Value → List (NestedKey × Addr × Value)
  | k :: ks, b :: bs, u :: us => (nk k, b, u) :: tri ks bs us
  | _, _, _ => []
theorem ents_tri (P : Program) (w : World) : ∀ (ks : List (List Int)) (bs : List Addr) (us : List Value), entsN ks bs us = (tri ks bs us).map (entryOfKey (nestedKind P w))
  | [], _, _ => by simp [entsN, tri]
  | k :: ks, [], _ => by simp [entsN, tri]
  | k :: ks, b :: bs, [] => by simp [entsN, tri]
  | k :: ks, b :: bs, u :: us => by
    simp only [entsN, tri, List.map_cons, ents_tri P w ks bs us]
    congr 1
    show _ = DictEntry.mk ((nk k).hash w) _ _
    rw [nk_hash]; rfl
theorem tri_keys : ∀ (ks : List (List Int)) (bs : List Addr) (us : List Value), ks.length = bs.length → ks.length = us.length → (tri ks bs us).map (·.1) = ks.map nk
  | [], [], [], _, _ => rfl
  | k :: ks, [], _, h, _ => by cases h
  | k :: ks, b :: bs, [], _, h => by cases h
  | k :: ks, b :: bs, u :: us, h, h' => by simp only [tri, List.map_cons, tri_keys ks bs us (by simpa using h) (by simpa using h')]
  | [], b :: bs, _, h, _ => by cases h
  | [], [], u :: us, _, h => by cases h
theorem tri_length : ∀ (ks : List (List Int)) (bs : List Addr) (us : List Value), ks.length = bs.length → ks.length = us.length → (tri ks bs us).length = ks.length := fun ks bs us h h' => by
  have := congrArg List.length (tri_keys ks bs us h h')
  simpa using this
theorem ents_length : ∀ (ks : List (List Int)) (bs : List Addr) (us : List Value), ks.length = bs.length → ks.length = us.length → (entsN ks bs us).length = ks.length
  | [], _, _, _, _ => by simp [entsN]
  | k :: ks, b :: bs, u :: us, h, h' => by simp only [entsN, List.length_cons, ents_length ks bs us (by simpa using h) (by simpa using h')]
  | k :: ks, [], _, h, _ => by cases h
  | k :: ks, b :: bs, [], _, h => by cases h
theorem at_tri (k : List Int) : ∀ (ks : List (List Int)) (bs : List Addr) (us : List Value), ks.length = bs.length → ks.length = us.length → (atKey (tri ks bs us) (nk k)).isSome = decide (k ∈ ks)
  | [], [], [], _, _ => by simp [tri, atKey]
  | q :: ks, b :: bs, u :: us, h, h' => by
    have ih := at_tri k ks bs us (by simpa using h) (by simpa using h')
    unfold atKey at ih ⊢
    simp only [tri, List.find?_cons]
    by_cases e : q = k
    · subst e; simp
    · have : decide (nk q = nk k) = false := decide_eq_false fun z => e (nk_inj z)
      rw [this, ih]
      simp [Ne.symm e]
  | q :: ks, [], _, h, _ => by cases h
  | q :: ks, b :: bs, [], _, h => by cases h
  | [], b :: bs, _, h, _ => by cases h
  | [], [], u :: us, _, h => by cases h
/-- where a raw dict is told, there it stands -/
theorem raw_here {P : Program} {w : World} {H : Hp} {h : Heap} {a b : Addr} {es : List DictEntry} (ok : HOk P w H h) (e : H b = some (.ext (Raw a es))) : a = b ∧ Raw b es h := by
  obtain ⟨p, _, st⟩ := ok b _ e
  have : a = b := by
    apply Classical.byContradiction
    intro ne
    have q := st h (h.hide a) p fun o ho => by rw [Heap.hide_ne h (Ne.symm ne)]; exact ho
    obtain ⟨⟨o, ep, ho, _⟩, _, _⟩ := q
    rw [Heap.hide_self] at ho; cases ho
  subst this
  exact ⟨rfl, p⟩
theorem raw_ok {P : Program} {w : World} {H : Hp} {h : Heap} {a : Addr} {es : List DictEntry} (r : Raw a es h) : ObjOk P w H h a (.ext (Raw a es)) :=
  ⟨r, let ⟨o, _, e, _⟩ := r.ob; ⟨o, e⟩, fun h1 h2 p k => ⟨let ⟨o, ep, e, q⟩ := p.ob; ⟨o, ep, k o e, q⟩, p.sm, p.sz⟩⟩
section
variable {X : Cx} {pins : List (Addr × Obj)} {σ : L2.St} {H : Hp} {s : Shared}
theorem nums_all {h : Heap} : ∀ {vs : List V} {its : List Value} {k : List Int}, Vals vs its → vs.map numV = k.map some → NestedAll h (k.map .num) its
  | [], _, k, r, e => by
    cases r
    cases k with
    | nil => exact .nil
    | cons a k => cases e
  | v :: vs, _, [], r, e => by cases e
  | v :: vs, _, i :: k, .cons r1 r2, e => by
    simp only [List.map_cons, List.cons.injEq] at e
    refine .cons ?_ (nums_all r2 e.2)
    cases v with
    | int j => cases e.1; obtain ⟨t, rfl⟩ := r1; exact .int _ _
    | bl b => cases e.1; cases r1; exact .bool rfl
    | _ => cases e.1
theorem key_is (I : Inv X pins σ H s) {k : List Int} {b : Addr} (h : KeyAt X.K H k b) : (nestedKind X.prog X.w).is s.heap (nk k) b := by
  obtain ⟨vs, h1, h2⟩ := h
  obtain ⟨its, rv, ⟨o, ho, hc, n, hd⟩, _⟩ := I.tuple h1
  exact ⟨.tup ho hc hd (by simpa using nums_all rv h2), nk_depth k⟩
theorem keys_are (I : Inv X pins σ H s) : ∀ {ks : List (List Int)} {bs : List Addr} (us : List Value), KeysAt X.K H ks bs → ∀ x ∈ tri ks bs us, (nestedKind X.prog X.w).is s.heap x.1 x.2.1
  | _, _, _, .nil => fun x hx => by simp [tri] at hx
  | _, _, [], .cons _ _ => fun x hx => by simp [tri] at hx
  | _, _, u :: us, .cons h t => fun x hx => by
    simp only [tri, List.mem_cons] at hx
    rcases hx with rfl | hx
    · exact key_is I h
    · exact keys_are I us t x hx
theorem dict_here (I : Inv X pins σ H s) {a b : Addr} {ks : List (List Int)} {bs : List Addr} {us : List Value} (h : H b = some (.ext (Raw a (entsN ks bs us)))) (hk : KeysAt X.K H ks bs) (hl : ks.length = us.length) (hn : ks.Nodup) :
    a = b ∧ (b == sysModules) = false ∧ (tri ks bs us).length ≤ sizeLine ∧ s.heap.DictOfH (nestedKind X.prog X.w) b (tri ks bs us) := by
  obtain ⟨rfl, r⟩ := raw_here I.hok h
  obtain ⟨⟨o, ep, h1, h2, h3⟩, h4, h5⟩ := r
  refine ⟨rfl, h4, by rw [tri_length _ _ _ hk.length hl]; rw [ents_length _ _ _ hk.length hl] at h5; exact h5, o, _, ep, h1, h2, h3, by rw [ents_tri X.prog X.w], keys_are I us hk, ?_⟩
  rw [tri_keys _ _ _ hk.length hl]
  exact List.pairwise_map.mpr (List.Pairwise.imp (fun ne e => ne (nk_inj e)) hn)
end
/-! ### k in d, k not in d -/
def rNIn (neg : Bool) (K : PySem.W.Frag) : R2 := fun x y H Q => ∃ k b a c ks bs us, x = .ref b ∧ y = .ref c ∧ KeyAt K H k b ∧ H c = some (.ext (Raw a (entsN ks bs us))) ∧ KeysAt K H ks bs ∧ ks.length = us.length ∧ ks.Nodup ∧
  Q (.bl (if neg then !decide (k ∈ ks) else decide (k ∈ ks))) H
section
variable {Z : Zc}
theorem or_nIn {X : Cx} (h : InF Z X) : OpR X (compareOp .In) (rNIn false Z.K) := by
  rw [← h.K]
  intro pins s σ H x y v u Q I rx ry hh
  obtain ⟨k, b, a, c, ks, bs, us, rfl, rfl, h1, h2, h3, h4, h5, q⟩ := hh
  cases rx; cases ry
  obtain ⟨rfl, e1, e2, e3⟩ := dict_here I h2 h3 h4 h5
  have un := h.room.units
  refine wpAny_in_heap (by show X.A.units + 1 + 8 < cLine; omega) (key_is I h1) e1 e3 ⟨.bl _, H, I.tok _, rfl, ?_⟩
  rw [at_tri _ _ _ _ h3.length h4]
  exact q
theorem or_nNin {X : Cx} (h : InF Z X) : OpR X (compareOp .NotIn) (rNIn true Z.K) := by
  rw [← h.K]
  intro pins s σ H x y v u Q I rx ry hh
  obtain ⟨k, b, a, c, ks, bs, us, rfl, rfl, h1, h2, h3, h4, h5, q⟩ := hh
  cases rx; cases ry
  obtain ⟨rfl, e1, e2, e3⟩ := dict_here I h2 h3 h4 h5
  have un := h.room.units
  refine notIn_keyed (kvs := pairsH (tri ks bs us)) (by show X.A.units + 1 + 8 < cLine; omega) (key_is I h1) e1 ⟨_, e3, rfl⟩ ⟨.bl _, H, I.tok _, rfl, ?_⟩
  rw [valueAt_pairsH, Option.isSome_map, at_tri _ _ _ _ h3.length h4]
  exact q
def numD : D → Option Int
  | .int i => some i
  | .bl b => some (if b = true then 1 else 0)
  | _ => none
def numsD : D → Option (List Int)
  | .tup ds => ds.mapM numD
  | _ => none
theorem nums_rep {K : PySem.W.Frag} {cl : String → Option Addr} {I : Hp} : ∀ {ds : List D} {vs : List V} {k : List Int}, Reps K cl I ds vs → ds.mapM numD = some k → vs.map numV = k.map some
  | [], _, k, r, e => by cases r; simp at e; subst e; rfl
  | d :: ds, _, k, .cons r1 r2, e => by
    simp only [List.mapM_cons, Option.bind_eq_bind, Option.pure_def] at e
    obtain ⟨i, e1, e⟩ := Option.bind_eq_some_iff.mp e
    obtain ⟨k2, e2, e⟩ := Option.bind_eq_some_iff.mp e
    cases e
    rw [List.map_cons, List.map_cons, nums_rep r2 e2]
    congr 1
    cases d with
    | int j => cases e1; rw [r1.int_inv]; rfl
    | bl b => cases e1; rw [r1.bl_inv]; rfl
    | _ => cases e1
theorem Rb.key {I H : Hp} {d : D} {k : List Int} {v : V} (s : Same I H) (e : numsD d = some k) (r : Rb Z I H d v) : ∃ b, v = .ref b ∧ KeyAt Z.K H k b := by
  cases d with
  | tup ds =>
    obtain ⟨b, vs, rfl, h1, h2⟩ := r.tup s
    exact ⟨b, rfl, vs, h1, nums_rep h2 e⟩
  | _ => cases e
theorem Rb.dcn {I H : Hp} {ks xs} {v : V} (s : Same I H) (r : Rb Z I H (.dcn ks xs) v) : ∃ c a vs bs us, v = .ref c ∧ H c = some (.ext (Raw a (entsN ks bs us))) ∧ KeysAt Z.K H ks bs ∧ Reps Z.K Z.cl I xs vs ∧ Vals vs us ∧ ks.length = xs.length ∧ ks.Nodup := by
  rcases r with r | ⟨c, rfl, o, e, r⟩
  · obtain ⟨c, a, vs, bs, us, rfl, h1, h2, h3⟩ := r.dcn_inv
    exact ⟨c, a, vs, bs, us, rfl, s _ _ h1, h2.mono s, h3⟩
  · obtain ⟨a, vs, bs, us, rfl, h2, h3⟩ := r.dcn_inv
    exact ⟨c, a, vs, bs, us, rfl, e, h2.mono s, h3⟩
def dInN (neg : Bool) (x y : D) : Option D := match y with
  | .dcn ks _ => (numsD x).map fun k => .bl (if neg then !decide (k ∈ ks) else decide (k ∈ ks))
  | _ => none
theorem ok_inN {neg : Bool} : RuleOk Z (rNIn neg Z.K) (dInN neg) := by
  intro I H x y z vx vy Q s rx ry h k
  unfold dInN at h
  split at h
  · rename_i ks xs
    obtain ⟨q, e, h⟩ := Option.map_eq_some_iff.mp h
    cases h
    obtain ⟨b, rfl, h1⟩ := rx.key s e
    obtain ⟨c, a, vs, bs, us, rfl, h2, h3, h4, h5, h6, h7⟩ := ry.dcn s
    exact ⟨q, b, a, c, ks, bs, us, rfl, rfl, h1, h2, h3, by rw [h6, h4.length, h5.length], h7, k _ .bl⟩
  · cases h
end
/-! ### d[k] = v -/
def replN {α : Type} (k : List Int) (x : α) : List (List Int) → List α → List α
  | q :: ks, y :: ys => (if q = k then x else y) :: replN k x ks ys
  | _, ys => ys
def putN (k : List Int) (ks : List (List Int)) : List (List Int) := if k ∈ ks then ks else ks ++ [k]
def putX {α : Type} (k : List Int) (x : α) (ks : List (List Int)) (xs : List α) : List α := if k ∈ ks then replN k x ks xs else xs ++ [x]
theorem replN_length {α : Type} (k : List Int) (x : α) : ∀ (ks : List (List Int)) (xs : List α), (replN k x ks xs).length = xs.length
  | [], xs => by simp [replN]
  | q :: ks, [] => by simp [replN]
  | q :: ks, y :: ys => by simp [replN, replN_length k x ks ys]
theorem put_length {α : Type} (k : List Int) (x : α) (ks : List (List Int)) (xs : List α) (h : ks.length = xs.length) : (putN k ks).length = (putX k x ks xs).length := by
  unfold putN putX
  split
  · rw [replN_length, h]
  · simp [h]
theorem replN_rep {K : PySem.W.Frag} {cl : String → Option Addr} {I : Hp} {k : List Int} {d : D} {v : V} (r : Rep K cl I d v) : ∀ {ks : List (List Int)} {xs : List D} {vs : List V}, Reps K cl I xs vs → Reps K cl I (replN k d ks xs) (replN k v ks vs)
  | [], _, _, rs => by simp only [replN]; exact rs
  | q :: ks, _, _, .nil => by simp only [replN]; exact .nil
  | q :: ks, _, _, .cons r1 r2 => by
    simp only [replN]
    refine .cons ?_ (replN_rep r r2)
    split
    · exact r
    · exact r1
theorem putX_rep {K : PySem.W.Frag} {cl : String → Option Addr} {I : Hp} {k : List Int} {d : D} {v : V} {ks : List (List Int)} {xs : List D} {vs : List V} (r : Rep K cl I d v) (rs : Reps K cl I xs vs) : Reps K cl I (putX k d ks xs) (putX k v ks vs) := by
  unfold putX
  split
  · exact replN_rep r rs
  · exact rs.append (.cons r .nil)
theorem replN_vals {k : List Int} {v : V} {u : Value} (r : RelV v u) : ∀ {ks : List (List Int)} {vs : List V} {us : List Value}, Vals vs us → Vals (replN k v ks vs) (replN k u ks us)
  | [], _, _, rs => by simp only [replN]; exact rs
  | q :: ks, _, _, .nil => by simp only [replN]; exact .nil
  | q :: ks, _, _, .cons r1 r2 => by
    simp only [replN]
    refine .cons ?_ (replN_vals r r2)
    split
    · exact r
    · exact r1
theorem putX_vals {k : List Int} {v : V} {u : Value} {ks : List (List Int)} {vs : List V} {us : List Value} (r : RelV v u) (rs : Vals vs us) : Vals (putX k v ks vs) (putX k u ks us) := by
  unfold putX
  split
  · exact replN_vals r rs
  · exact rs.append (.cons r .nil)
theorem tri_append {ks : List (List Int)} {bs : List Addr} {us : List Value} (h : ks.length = bs.length) (h' : ks.length = us.length) (k : List Int) (b : Addr) (u : Value) : tri (ks ++ [k]) (bs ++ [b]) (us ++ [u]) = tri ks bs us ++ [(nk k, b, u)] := by
  induction ks generalizing bs us with
  | nil => cases bs with
    | nil => cases us with
      | nil => rfl
      | cons => cases h'
    | cons => cases h
  | cons q ks ih => cases bs with
    | nil => cases h
    | cons c bs => cases us with
      | nil => cases h'
      | cons v us => simp only [List.cons_append, tri, ih (by simpa using h) (by simpa using h')]
theorem tri_repl (k : List Int) (u : Value) : ∀ (ks : List (List Int)) (bs : List Addr) (us : List Value), (tri ks bs us).map (putAt (nk k) u) = tri ks bs (replN k u ks us)
  | [], _, _ => by simp [tri]
  | q :: ks, [], us => by cases us <;> simp [tri]
  | q :: ks, b :: bs, [] => by simp [tri, replN]
  | q :: ks, b :: bs, v :: us => by
    simp only [tri, replN, List.map_cons, tri_repl k u ks bs us]
    congr 1
    unfold putAt
    by_cases e : q = k
    · subst e; simp
    · rw [if_neg (fun z => e (nk_inj z)), if_neg e]
/-- what stands behind: the keys' addresses too -/
def putB (k : List Int) (b : Addr) (ks : List (List Int)) (bs : List Addr) : List Addr := if k ∈ ks then bs else bs ++ [b]
theorem stored_tri {ks : List (List Int)} {bs : List Addr} {us : List Value} (h : ks.length = bs.length) (h' : ks.length = us.length) (k : List Int) (b : Addr) (u : Value) : storedH (tri ks bs us) (nk k) b u = tri (putN k ks) (putB k b ks bs) (putX k u ks us) := by
  unfold storedH putN putB putX
  rw [at_tri k ks bs us h h']
  by_cases e : k ∈ ks
  · simp only [e, decide_true, if_true]; exact tri_repl ..
  · simp only [e, decide_false, if_false, Bool.false_eq_true]; exact (tri_append h h' k b u).symm
theorem KeysAt.put {K : PySem.W.Frag} {I : Hp} {k : List Int} {b : Addr} {ks : List (List Int)} {bs : List Addr} (h : KeysAt K I ks bs) (hk : KeyAt K I k b) : KeysAt K I (putN k ks) (putB k b ks bs) := by
  unfold putN putB
  split
  · exact h
  · have : ∀ {ks bs}, KeysAt K I ks bs → KeysAt K I (ks ++ [k]) (bs ++ [b]) := by
      intro ks bs h
      induction h with
      | nil => exact .cons hk .nil
      | cons h t ih => exact .cons h ih
    exact this h
theorem putN_nodup {k : List Int} {ks : List (List Int)} (h : ks.Nodup) : (putN k ks).Nodup := by
  unfold putN
  split
  · exact h
  · rename_i e
    rw [List.nodup_append]
    exact ⟨h, by simp, fun a ha b hb z => by simp at hb; subst hb; subst z; exact e ha⟩
section
variable {X : Cx} {pins : List (Addr × Obj)} {σ : L2.St} {H : Hp} {s : Shared}
/-- behind a store -/
theorem dict_stored {h' : Heap} {t' : Nat} {c b : Addr} {ks : List (List Int)} {bs : List Addr} {us : List Value} {k : List Int} {u : Value} (I : Inv X pins σ H s) {a : Addr} (h : H c = some (.ext (Raw a (entsN ks bs us)))) (hk : KeysAt X.K H ks bs) (hb : KeyAt X.K H k b)
    (hl : ks.length = us.length) (hz : ks.length < sizeLine) (hd : (c == sysModules) = false) (hm : h'.DictOfH (nestedKind X.prog X.w) c (storedH (tri ks bs us) (nk k) b u)) (hs : Heap.SameBut c s.heap h') :
    Inv X pins σ (upd H c (.ext (Raw c (entsN (putN k ks) (putB k b ks bs) (putX k u ks us))))) { s with heap := h', toks := t' } := by
  obtain ⟨o, es, ep, h1, h2, h3, h4, h5, h6⟩ := hm
  rw [stored_tri hk.length hl] at h4
  refine d_write I (by rw [h]; exact True.intro) hs ⟨o, h1⟩ (raw_ok ⟨⟨o, ep, h1, h2, ?_⟩, hd, ?_⟩)
  · rw [h3, ents_tri X.prog X.w, ← h4]
  · have e1 : (putN k ks).length = (putB k b ks bs).length := (hk.put hb).length
    have e2 : (putN k ks).length = (putX k u ks us).length := put_length k u ks us hl
    rw [ents_length _ _ _ e1 e2]
    unfold putN
    split <;> simp <;> omega
end
def sNPut (td ty tv : TE) (K : PySem.W.Frag) : TS := fun D σ H => tv σ H fun v H1 => td σ H1 fun x H2 => ty σ H2 fun y H3 => ∃ k b a c ks bs us, y = .ref b ∧ x = .ref c ∧ KeyAt K H3 k b ∧ H3 c = some (.ext (Raw a (entsN ks bs us))) ∧ KeysAt K H3 ks bs ∧
  ks.length = us.length ∧ ks.Nodup ∧ ks.length < sizeLine ∧ ∀ u, RelV v u → D.nx σ (upd H3 c (.ext (Raw c (entsN (putN k ks) (putB k b ks bs) (putX k u ks us)))))
theorem ps_nput {X : Cx} {o i value : Expr} {td ty tv : TE} {pos pos' : Pos} (hu : X.A.units + 20 < cLine) (ho : PE X o td) (hi : PE X i ty) (hv : PE X value tv) (hs : swapsWith value (some (.Subscript o i pos')) pos.line X.env = pure false) :
    PS X (.Assign [.Subscript o i pos'] value pos) (sNPut td ty tv X.K) := by
  refine ⟨fun pins s σ H D I h => ?_⟩
  refine wpAny_Assign_Subscript (thn (hv.run pins s σ H _ I h) fun r s1 ⟨v, H1, I1, rv, q1⟩ => thn (ho.run pins s1 σ H1 _ I1 q1) fun u s2 ⟨x, H2, I2, rx, q2⟩ => thn (hi.run pins s2 σ H2 _ I2 q2) fun iv s3 hh => ?_) hs
  obtain ⟨y, H3, I3, ry, k, b, a, c, ks, bs, us, rfl, rfl, h1, h2, h3, h4, h5, h6, q3⟩ := hh
  cases rx; cases ry
  obtain ⟨rfl, e1, e2, e3⟩ := dict_here I3 h2 h3 h4 h5
  exact wpAny_setItem_heap (by show X.A.units + 1 + 8 < cLine; omega) (key_is I3 h1) e3 (fun h' hm hs' => ⟨σ, _, dict_stored I3 h2 h3 h1 h4 h6 e1 hm hs', q3 r rv⟩) e2
section
variable {Z : Zc}
def ownN (env : En) (i : Nat) : Option (List (List Int) × List D) := (env[i]?).bind fun s => (s.own?).bind fun d => match d with
  | .dcn ks xs => some (ks, xs)
  | _ => none
theorem ownN_inv {env : En} {i : Nat} {ks : List (List Int)} {xs : List D} (h : ownN env i = some (ks, xs)) : ∃ s, env[i]? = some s ∧ s.own? = some (.dcn ks xs) := by
  unfold ownN at h
  obtain ⟨s, e, h⟩ := Option.bind_eq_some_iff.mp h
  obtain ⟨d, e2, h⟩ := Option.bind_eq_some_iff.mp h
  cases d <;> first | (cases h; exact ⟨s, e, e2⟩) | cases h
def mSetN (i : Nat) (e j : ME) : MS := fun env => (e env).bind fun p => (ownN p.2 i).bind fun _ => (j p.2).bind fun q => (ownN q.2 i).bind fun kx => (numsD q.1).bind fun k =>
  if kx.2.length < sizeLine then some (.nx (putS q.2 i (.dcn (putN k kx.1) (putX k p.1 kx.1 kx.2)))) else none
theorem sv_setN {i : Nat} {x : Str} {e j : Expr} {me mj : ME} {p p1 pos : Pos} (hN : Z.N[i]? = some x) (hv : Vis Z.sc x) (he : EV Z e me) (hj : EV Z j mj) (hd : (x == ("__debug__" : Str)) = false := by decide) (hcd : (x == ("__classdict__" : Str)) = false := by decide)
    (hs : ∀ env, swapsWith e (some (.Subscript (.Name x p) j p1)) pos.line env = pure false := by intro _; rfl) :
    SV Z (.Assign [.Subscript (.Name x p) j p1] e pos) (mSetN i me mj) := by
  obtain ⟨t, q1, q2⟩ := he
  obtain ⟨u, j1, j2⟩ := hj
  refine ⟨sNPut (tVar i) u t Z.K, fun X k => by have q := ps_nput (X := X) (by have := k.room.units; omega) (pe_var (pos := p) (by rw [k.N]; exact hN) (visOf k hv) hd hcd) (j1 X k) (q1 X k) (hs _); rw [k.K] at q; exact q, fun g env σ I H D fl R hm k => ?_⟩
  unfold mSetN at hm
  obtain ⟨⟨y, en⟩, e1, hm⟩ := Option.bind_eq_some_iff.mp hm
  obtain ⟨⟨ks0, xs0⟩, e2, hm⟩ := Option.bind_eq_some_iff.mp hm
  obtain ⟨⟨n, en2⟩, e3, hm⟩ := Option.bind_eq_some_iff.mp hm
  obtain ⟨⟨ks, xs⟩, e4, hm⟩ := Option.bind_eq_some_iff.mp hm
  obtain ⟨q, e5, hm⟩ := Option.bind_eq_some_iff.mp hm
  split at hm
  · rename_i hl
    cases hm
    refine q2 g env σ I H _ y en R e1 fun v I1 H1 R1 s1 rv => ?_
    obtain ⟨s0, f1, f2⟩ := ownN_inv e2
    obtain ⟨a0, o0, f3, _⟩ := own_at R1 f1 f2
    refine ⟨.ref a0, f3, ?_⟩
    refine j2 g en σ I1 H1 _ _ en2 R1 e3 fun w I2 H2 R2 s2 rw' => ?_
    obtain ⟨s, h5, h6⟩ := ownN_inv e4
    obtain ⟨c, o, h7, h8, h9, h10⟩ := own_at R2 h5 h6
    rw [f3] at h7
    cases h7
    obtain ⟨a, vs, bs, us, rfl, r1, r2, r3, r4, r5⟩ := h9.dcn_inv
    obtain ⟨b, rfl, hk⟩ := (show Rb Z I2 H2 n w from .inl rw').key R2.sub e5
    have hk0 : KeyAt Z.K I2 q b := by
      cases n with
      | tup ds =>
        obtain ⟨b', vs', e, h1, h2⟩ := rw'.tup_inv
        cases e
        exact ⟨vs', h1, nums_rep h2 e5⟩
      | _ => cases e5
    refine ⟨q, b, a, a0, ks, bs, us, rfl, rfl, hk, h8, r1.mono R2.sub, by rw [r4, r2.length, r3.length], r5, by rw [r4]; exact hl, fun u' ru => ?_⟩
    have R3 := R2.mutate h5 h6 f3 (.dcn (a := a0) (r1.put hk0) (putX_rep (k := q) (ks := ks) (rv.mono s2) r2) (putX_vals (k := q) (ks := ks) ru r3) (put_length q y ks xs r4) (putN_nodup r5) : ObjRep Z.K Z.cl I2 (.dcn (putN q ks) (putX q y ks xs)) _)
    have e6 : putS en2 i (.dcn (putN q ks) (putX q y ks xs)) = en2.set i (s.put (.dcn (putN q ks) (putX q y ks xs))) := by unfold putS; rw [h5]
    rw [e6] at k
    exact k σ I2 _ R3 (s1.trans s2)
  · cases hm
end
end Q
namespace Q
open PySem PySem.Spec PyProof.Rows L2
/-! ## {k: v for ..} whatever the keys are: e0 the new dict, SS one store -/
abbrev StoreW := V → V → Addr → Hp → (Hp → Prop) → Prop
def tDg (wi : TI) (g : TG) (tt : TT) (tk tv : TE) (vs : List Nat) (e0 : Addr → HO) (SS : StoreW) : TE := fun σ H Q => wi σ H fun J H1 => ∀ L, H1 L = none → ∃ W : Nat → Nat → Hp → Prop, (∃ m, W 0 m (upd H1 L (e0 L))) ∧ ∀ i m G, W i m G →
  (J.stop i G ∧ Q (.ref L) G) ∨ (J.go i G ∧ ∃ Nx : Hp → Prop, (∀ G', Nx G' → ∃ m', m' < m ∧ W (i + 1) m' G') ∧ ∀ x G', J.yld i G x G' → g x (wipe σ vs) G' fun τ G2 => wipe τ vs = wipe σ vs ∧ tt τ G2 fun b G3 =>
    if b = true then tk τ G3 fun y G4 => tv τ G4 fun z G5 => SS y z L G5 Nx else Nx G3)
section
variable {X : Cx}
/-- what a store does where the dict stands -/
def StoreOk (X : Cx) (SS : StoreW) : Prop := ∀ (Y : Cx) (pins : List (Addr × Obj)) (σ : L2.St) (G : Hp) (t : Shared) (L : Addr) (y z : V) (u r : Value) (Nx : Hp → Prop) (Q : Unit → Shared → Prop) (E : Value → Shared → Prop),
  Y.prog = X.prog → Y.w = X.w → Y.K = X.K → Y.A = X.A → Inv Y pins σ G t → SS y z L G Nx → RelV y u → RelV z r → (∀ t' G', Inv Y pins σ G' t' → Nx G' → Q () t') → wpAny (model Y.prog Y.w) Y.A (dictSet L u r) Q E t
theorem dg_core {pins : List (Addr × Obj)} {t : Shared} {σ : L2.St} {G : Hp} {Q : VK} {kx vx tg iter : Expr} {ifs : List Expr} {scope : Scope} {own : List (Str × Nat)} {pos pos' : Pos} {wi : TI} {g : TG} {tt : TT} {tk tv : TE} {e0 : Addr → HO} {SS : StoreW} {use : Option (Value → Sem Unit)} {Qf : Value → Shared → Prop}
    (hc : X.calm = true) (hN : X.N.Nodup) (J0 : Inv X pins σ G t) (hi : PI X tg iter wi) (ok : BlkOk X.N X.env.scope scope own) (emp : ∀ (H : Hp) (h : Heap), sysModules < h.objs.size → ObjOk X.prog X.w H (h.push { cls := .type "dict", data := .dict #[] }) h.objs.size (e0 h.objs.size)) (hS : StoreOk X SS)
    (hg : ∀ t H C cl fp, PG (X.blk t H scope (compEnvC scope cl C X.env) fp) tg g) (ht : ∀ t H C cl fp, PTs (X.blk t H scope (compEnvC scope cl C X.env) fp) ifs tt) (hk : ∀ t H C cl fp, PE (X.blk t H scope (compEnvC scope cl C X.env) fp) kx tk) (he : ∀ t H C cl fp, PE (X.blk t H scope (compEnvC scope cl C X.env) fp) vx tv)
    (hs : ∀ x, foldedSetIterable iter X.env x = pure x) (h : tDg wi g tt tk tv (own.map (·.2)) e0 SS σ G Q)
    (back : ∀ L C t' m G', Inv X pins σ G' t' → Q (.ref L) G' → t'.heap.Ns C m → FpOk X pins G' C → compPost (model X.prog X.w) X.A X.xe use Qf (.ref L) C (.ok .next) t') :
    wpAny (model X.prog X.w) X.A (comprehension (.DictComp kx vx [⟨tg, iter, ifs, 0⟩] scope pos) scope X.env pos' newDict false (eval iter X.env) use) Qf X.xe t := by
  have fr : ∀ y ∈ scope.names, y.2 = .free → ∃ c, X.env.cells.lookup y.1 = some c := fun y hy e => (ok.free y hy e).elim (fun k => J0.ok.has _ (.inl k)) fun k => J0.ok.has _ (.inr k)
  refine wpAny_comprehension_free (use := use) rfl hs (closure_ok fr) ok.kind (fun y hy e => by rw [ok.uniq y hy, e]) (thn (hi.run pins t σ G _ J0 h) fun _ _ hx => thn hx fun _ t2 ⟨it, fp, tn, J, G2, e, I2, T, st2, f2, q⟩ => ?_)
  subst e
  refine wpAny_newObj_type (newEnv_comp ?_)
  generalize hD : t2.heap.objs.size = L
  obtain ⟨W, ⟨m0, w0⟩, turn⟩ := q L (I2.hok.fresh (Nat.le_of_eq hD))
  obtain ⟨t3, hs3⟩ : ∃ t3 : Shared, t3 = { t2 with heap := t2.heap.push { cls := .type "dict", data := .dict #[] } } := ⟨_, rfl⟩
  rw [← hs3]
  have h3 : t3.heap = t2.heap.push { cls := .type "dict", data := .dict #[] } := by rw [hs3]
  have I3 : Inv X pins σ (upd G2 L (e0 L)) t3 := by
    subst hs3; subst hD
    exact I2.laid (t' := t2.toks) (fun _ _ q => Heap.get?_push_of_some _ q) (Nat.le_refl _) (emp _ _ I2.big)
  have lt2 : ∀ b ∈ fp, b < t2.heap.objs.size := fun b hb => let ⟨_, e, _⟩ := T.obj _ _ st2 b hb; Heap.lt_size e
  have f3 : ∀ b ∈ fp, FpOk X pins (upd G2 L (e0 L)) b ∧ b < t3.heap.objs.size := fun b hb => by
    have q := lt2 b hb
    have ne : b ≠ L := by subst hD; exact Nat.ne_of_lt q
    exact ⟨⟨by rw [upd_ne ne]; exact (f2 b hb).1, (f2 b hb).2⟩, by rw [h3, Heap.size_push]; exact Nat.lt_succ_of_lt q⟩
  have st3 : tn 0 t3.heap := T.keep _ _ _ st2 fun _ _ _ q => by rw [h3]; exact Heap.get?_push_of_some _ q
  have I4 := block_start I3 ok hN f3
  have nfp : ∀ b ∈ fp, (upd G2 L (e0 L)) b = none := fun b hb => (f3 b hb).1.1
  show codeAny _ _ (.compStart (.DictComp kx vx [⟨tg, iter, ifs, 0⟩] scope pos) 0 (.ref it) (.ref L) (compEnvC scope (cellsFrom (t3.heap.objs.size + 1) scope.names (cloFrom X.env.cells scope.names [])) t3.heap.objs.size X.env)) (compPost (model X.prog X.w) X.A X.xe use Qf (.ref L) t3.heap.objs.size) { t3 with heap := pushCells (t3.heap.push { cls := .type "dict", data := .dict #[] }) scope.names }
  obtain ⟨ce, hce⟩ : ∃ ce, ce = compEnvC scope (cellsFrom (t3.heap.objs.size + 1) scope.names (cloFrom X.env.cells scope.names [])) t3.heap.objs.size X.env := ⟨_, rfl⟩
  obtain ⟨G3, hG3⟩ : ∃ G3, G3 = upd G2 L (e0 L) := ⟨_, rfl⟩
  have pg : PG (X.blk t3 G3 scope ce fp) tg g := by rw [hce]; exact hg ..
  have pt : PTs (X.blk t3 G3 scope ce fp) ifs tt := by rw [hce]; exact ht ..
  have pk : PE (X.blk t3 G3 scope ce fp) kx tk := by rw [hce]; exact hk ..
  have pe : PE (X.blk t3 G3 scope ce fp) vx tv := by rw [hce]; exact he ..
  have cL : ce.locals = t3.heap.objs.size := by rw [hce]; rfl
  rw [← hce] at I4 ⊢
  rw [← hG3] at I3 I4 w0 nfp f3
  obtain ⟨t4, hs4⟩ : ∃ t4 : Shared, t4 = { t3 with heap := pushCells (t3.heap.push { cls := .type "dict", data := .dict #[] }) scope.names } := ⟨_, rfl⟩
  rw [← hs4] at I4 ⊢
  have st4 : tn 0 t4.heap := T.keep _ _ _ st3 fun _ _ _ q => by rw [hs4]; exact pushCells_keeps _ _ _ _ (Heap.get?_push_of_some _ q)
  have stat : ∀ {τ : L2.St} {G' : Hp} {t' : Shared}, Inv (X.blk t3 G3 scope ce fp) [] τ G' t' → (∀ b ∈ fp, G' b = none) → ∀ b ∈ fp, FpOk (X.blk t3 G3 scope ce fp) [] G' b := fun {τ G' t'} K hn b hb =>
    ⟨hn b hb, (K.ok.exf b hb).1, K.ok.exfs b hb, .inl hb, fun x c e => (K.ok.exf b hb).2 x c e, fun p hp => absurd hp List.not_mem_nil⟩
  have loop : codeAny (model X.prog X.w) X.A (.compLoop (.DictComp kx vx [⟨tg, iter, ifs, 0⟩] scope pos) 0 (.ref it) (.ref L) ce) (compPost (model X.prog X.w) X.A X.xe use Qf (.ref L) t3.heap.objs.size) t4 := by
    refine compLoop_anyD (fun n t' => ∃ i G', Inv (X.blk t3 G3 scope ce fp) [] (wipe σ (own.map (·.2))) G' t' ∧ tn i t'.heap ∧ (∀ b ∈ fp, G' b = none) ∧ W i n G') ?_ m0 ⟨0, G3, I4, st4, nfp, w0⟩
    rintro n t5 ⟨i, G5, I5, st5, n5, w5⟩
    rcases turn i n G5 w5 with ⟨stop, qq⟩ | ⟨go, Nx, hNx, step⟩
    · refine thnF (T.done (X.blk t3 G3 scope ce fp) rfl rfl rfl hc i [] t5 _ G5 (fun _ _ => False) I5 (stat I5 n5) st5 stop) fun r t6 ⟨hr, I6⟩ => ?_
      subst hr
      have I7 : Inv X pins σ G5 t6 := I3.call' (ch := fp) I6.os I6.base I6.hok I6.bare fun b hb => let z := (f3 b hb).1.2; ⟨z.2.2.1, z.1, z.2.2.2.1, z.2.2.2.2⟩
      obtain ⟨m, hn, _⟩ := I6.loc
      have nC : G5 ce.locals = none := I6.free
      have hn' : t6.heap.Ns ce.locals m := hn
      rw [cL] at nC hn'
      exact back L t3.heap.objs.size t6 m G5 I7 qq hn' (I3.fpOk (Nat.le_refl _) nC)
    · refine thnF (T.item (X.blk t3 G3 scope ce fp) rfl rfl rfl hc i [] t5 _ G5 (fun _ _ => False) I5 (stat I5 n5) st5 go) fun r t6 ⟨u, hr, h6⟩ => ?_
      subst hr
      refine thnF h6 fun _ t7 ⟨x, G7, I7, r7, y7, st7, n7⟩ => ?_
      refine thnF (pg.run _ t7 _ G7 x u _ (I7.pinned (stat I7 n7) (T.obj _ _ st7)) r7 (step x G7 y7)) fun _ t8 ⟨τ, G8, I8, hw8, q8⟩ => thnF (pt.run _ t8 τ G8 _ I8 q8) fun b t9 ⟨G9, I9, q9⟩ => ?_
      -- behind the turn
      have fin : ∀ {t' : Shared} {G' : Hp}, Inv (X.blk t3 G3 scope ce fp) ([] ++ pinsAt fp t7.heap) τ G' t' → Nx G' → ∃ m, m < n ∧ ∃ i G', Inv (X.blk t3 G3 scope ce fp) [] (wipe σ (own.map (·.2))) G' t' ∧ tn i t'.heap ∧ (∀ b ∈ fp, G' b = none) ∧ W i m G' := fun {t' G'} K nx => by
        obtain ⟨m', hm, w'⟩ := hNx G' nx
        have pin : ∀ b ∈ fp, ∀ o, t7.heap.get? b = some o → t'.heap.get? b = some o ∧ G' b = none := fun b hb o e => let z := K.pin (b, o) (List.mem_append_right _ (List.mem_append_right _ (mem_pinsAt hb e))); ⟨z.1, z.2.1⟩
        refine ⟨m', hm, i + 1, G', (K.unpinned (pins := [])).weak (by rw [← hw8, wipe_length]) (fun j v e => ?_), T.keep _ _ _ st7 fun b hb o e => (pin b hb o e).1, fun b hb => let ⟨o, e, _⟩ := T.obj _ _ st7 b hb; (pin b hb o e).2, w'⟩
        rw [← hw8] at e
        exact (wipe_some e).1
      cases b with
      | false => rw [if_neg Bool.false_ne_true] at q9 ⊢; exact fin I9 q9
      | true =>
        rw [if_pos rfl] at q9 ⊢
        exact thnF (pk.run _ t9 τ G9 _ I9 q9) fun z t10 ⟨yk, G10, I10, r10, q10⟩ => thnF (pe.run _ t10 τ G10 _ I10 q10) fun z2 t11 ⟨yv, G11, I11, r11, q11⟩ =>
          hS (X.blk t3 G3 scope ce fp) _ τ G11 t11 L yk yv z z2 Nx _ _ rfl rfl rfl rfl I11 q11 r10 r11 fun t12 G12 I12 nx => fin I12 nx
  exact codeAny_compStart_dict loop (T.self X.A 0 _ _ _ st4 loop)
end
/-! ### the keys tuples -/
namespace Nd
open PySem L2
def rawE (L : Addr) : HO := .ext (Raw L [])
def ssN (K : PySem.W.Frag) : StoreW := fun y z L H Nx => ∃ k b a ks bs us, y = .ref b ∧ KeyAt K H k b ∧ H L = some (.ext (Raw a (entsN ks bs us))) ∧ KeysAt K H ks bs ∧ ks.length = us.length ∧ ks.Nodup ∧ ks.length < sizeLine ∧
  ∀ u, RelV z u → Nx (upd H L (.ext (Raw L (entsN (putN k ks) (putB k b ks bs) (putX k u ks us)))))
theorem emptyN {P : Program} {w : World} (H : Hp) (h : Heap) (hb : sysModules < h.objs.size) : ObjOk P w H (h.push { cls := .type "dict", data := .dict #[] }) h.objs.size (rawE h.objs.size) :=
  raw_ok ⟨⟨_, 0, Heap.get?_push_size _ rfl, ⟨rfl, rfl, rfl⟩, rfl⟩, beq_eq_false_iff_ne.mpr (Ne.symm (Nat.ne_of_lt hb)), Nat.zero_le _⟩
theorem storeN {X : Cx} (hu : X.A.units + 20 < cLine) : StoreOk X (ssN X.K) := by
  intro Y pins σ G t L y z u r Nx Q E e1 e2 e3 e4 I hs ry rz hq
  obtain ⟨k, b, a, ks, bs, us, rfl, h1, h2, h3, h4, h5, h6, nx⟩ := hs
  cases ry
  rw [← e3] at h1 h3
  obtain ⟨rfl, d1, d2, d3⟩ := dict_here I h2 h3 h4 h5
  exact wpAny_dictSet_heap (by show Y.A.units + 8 < cLine; rw [e4]; omega) (key_is I h1) d3 (fun h' hm hs' => hq _ _ (dict_stored I h2 h3 h1 h4 h6 d1 hm hs') (nx r rz)) d2
theorem it_g {J : It} {n : Nat} {Ok : Hp → Prop} {Y : Nat → Hp → V → Hp → Prop} (w : Walk J n Ok Y) {g : TG} {tt : TT} {tk tv : TE} {vs : List Nat} {σ : L2.St} {H1 : Hp} {L : Addr} {Qd : Hp → Prop} {e0 : Addr → HO} {SS : StoreW} (Pv : Nat → Hp → Prop) (h0 : Pv 0 (upd H1 L (e0 L))) (hG : ∀ i H, i ≤ n → Pv i H → Ok H)
    (hs : ∀ i x H H', i < n → Pv i H → Y i H x H' → g x (wipe σ vs) H' fun τ H2 => wipe τ vs = wipe σ vs ∧ tt τ H2 fun b H3 => if b = true then tk τ H3 fun y H4 => tv τ H4 fun z H5 => SS y z L H5 (Pv (i + 1)) else Pv (i + 1) H3) (hd : ∀ H, Pv n H → Qd H) :
    ∃ W : Nat → Nat → Hp → Prop, (∃ m, W 0 m (upd H1 L (e0 L))) ∧ ∀ i m H, W i m H → (J.stop i H ∧ Qd H) ∨ (J.go i H ∧ ∃ Nx : Hp → Prop, (∀ H', Nx H' → ∃ m', m' < m ∧ W (i + 1) m' H') ∧
      ∀ x H', J.yld i H x H' → g x (wipe σ vs) H' fun τ H2 => wipe τ vs = wipe σ vs ∧ tt τ H2 fun b H3 => if b = true then tk τ H3 fun y H4 => tv τ H4 fun z H5 => SS y z L H5 Nx else Nx H3) := by
  refine ⟨fun i m H => m = n - i ∧ i ≤ n ∧ Pv i H, ⟨n, by simp, Nat.zero_le _, h0⟩, ?_⟩
  rintro i m H ⟨rfl, hi, p⟩
  by_cases hlt : i < n
  · exact .inr ⟨w.goes i H hlt (hG i H hi p), Pv (i + 1), fun H' p' => ⟨n - (i + 1), by omega, rfl, hlt, p'⟩, fun x H' y => hs i x H H' hlt p (w.yields i H x H' hlt (hG i H hi p) y)⟩
  · obtain rfl : i = n := by omega
    exact .inl ⟨w.stops H (hG i H hi p), hd H p⟩
end Nd
section
open Nd PySem L2
variable {Z : Zc}
def dnLoop (gf : D → En → Option En) (mt : MT) (mk mv : ME) (vs : List Nat) : List D → List (List Int) → List D → En → Option (List (List Int) × List D × En)
  | [], ks, xs, env => some (ks, xs, env)
  | d :: ds, ks, xs, env => (gf d (wipeE env vs)).bind fun e1 => (mt e1).bind fun p =>
    if p.1 then (mk p.2).bind fun q => (numsD q.1).bind fun k => (mv q.2).bind fun r => if xs.length < sizeLine then dnLoop gf mt mk mv vs ds (putN k ks) (putX k r.1 ks xs) r.2 else none
    else dnLoop gf mt mk mv vs ds ks xs p.2
def mDn (vs : List Nat) (mi : MI) (gf : D → En → Option En) (mt : MT) (mk mv : ME) : ME := fun env => (mi env).bind fun p => if calmAt p.2 vs = true then (dnLoop gf mt mk mv vs p.1 [] [] p.2).map fun q => (.dcn q.1 q.2.1, backE p.2 (wipeE q.2.2 vs) vs) else none
theorem key_fix {I : Hp} {d : D} {k : List Int} {v : V} (e : numsD d = some k) (r : Rep Z.K Z.cl I d v) : ∃ b, v = .ref b ∧ KeyAt Z.K I k b := by
  cases d with
  | tup ds => obtain ⟨b, vs, rfl, h1, h2⟩ := r.tup_inv; exact ⟨b, rfl, vs, h1, nums_rep h2 e⟩
  | _ => cases e
theorem KeyAt.mono {K : PySem.W.Frag} {I I' : Hp} {k : List Int} {b : Addr} (s : Same I I') (h : KeyAt K I k b) : KeyAt K I' k b := let ⟨vs, h1, h2⟩ := h; ⟨vs, sqT_mono s h1, h2⟩
theorem dn_sf {wi : TI} {gt : TG} {tt : TT} {tk tv : TE} {vs : List Nat} {mi : MI} {gf : D → En → Option En} {mt : MT} {mk mv : ME} {ix : List Nat} (hnd : vs.Nodup) (hix : ∀ i ∈ ix, i ∈ vs) (i2 : SI Z wi mi)
    (g2 : ∀ (g : G) (env : En) (σ : L2.St) (I H : Hp) (d : D) (v : V) (Q : L2.St → Hp → Prop) (env' : En), SR Z.K Z.cl g env σ I H → Rep Z.K Z.cl I d v → gf d env = some env' →
      (∀ σ', SR Z.K Z.cl g env' σ' I H → (∀ vs, (∀ i ∈ ix, i ∈ vs) → wipe σ' vs = wipe σ vs) → Q σ' H) → gt v σ H Q)
    (t2 : ST Z tt mt) (k2 : SE Z tk mk) (v2 : SE Z tv mv) : SF Z (tDg wi gt tt tk tv vs rawE (ssN Z.K)) (mDn vs mi gf mt mk mv) := by
  intro g env σ I H Q d env' R hm k
  unfold mDn at hm
  obtain ⟨⟨ds, en⟩, e1, hm⟩ := Option.bind_eq_some_iff.mp hm
  split at hm
  · rename_i hcalm
    obtain ⟨⟨kf, fin, enf⟩, e3, hm⟩ := Option.map_eq_some_iff.mp hm
    cases hm
    refine i2 g env σ I H _ ds en R e1 fun J I1 H1 R1 s1 wd L hL => ?_
    obtain ⟨Gd, Y, hw, hgd, hy⟩ := wd
    have hX : ∀ u, (L, u) ∉ g.X := (R1.new (o := rawE L) hL).x
    refine it_g (e0 := rawE) (SS := ssN Z.K) (H1 := H1) (L := L) hw (fun i H' => ∃ env' I' ks acc av bs us, SR Z.K Z.cl (g.beside L (.ext (Raw L (entsN ks bs us)))) (wipeE env' vs) (wipe σ vs) I' H' ∧ Same I1 I' ∧ Reps Z.K Z.cl I' acc av ∧ Vals av us ∧ KeysAt Z.K I' ks bs ∧ ks.length = acc.length ∧ ks.Nodup ∧ dnLoop gf mt mk mv vs (ds.drop i) ks acc env' = some (kf, fin, enf))
      ⟨en, I1, [], [], [], [], [], ((R1.alloc hL _).put (R1.new hL)).wipe vs, Same.refl _, .nil, .nil, .nil, rfl, List.nodup_nil, e3⟩ (fun i H' _ ⟨env', I', ks, acc, av, bs, us, R', s', _⟩ => hgd I' H' s' R'.sub) ?_ ?_
    · rintro i x H2 H3 hlt ⟨env2, I2, ks, acc, av, bs, us, R2, s2, ra, rvs, rks, hlen0, hnk, hm2⟩ hyld
      have hd : ds[i]? = some ds[i] := List.getElem?_eq_getElem hlt
      have hdrop : ds.drop i = ds[i] :: ds.drop (i + 1) := List.drop_eq_getElem_cons hlt
      rw [hdrop] at hm2
      obtain ⟨I3, R3, s3, r3⟩ := hy i ds[i] _ _ _ I2 H2 x H3 hd s2 R2 hyld
      unfold dnLoop at hm2
      obtain ⟨en3, q1, hm2⟩ := Option.bind_eq_some_iff.mp hm2
      refine g2 _ _ _ I3 H3 ds[i] x _ en3 R3 r3 q1 fun σ4 R4 w4 => ?_
      have hwp : wipe σ4 vs = wipe σ vs := by
        rw [w4 vs hix]
        have ww : ∀ (ws us : List Nat) (τ : L2.St), (∀ u ∈ us, u ∈ ws) → wipe (wipe τ us) ws = wipe τ ws := by
          intro ws us
          induction us with
          | nil => intro τ _; rfl
          | cons u us ih =>
            intro τ hu
            show wipe ((wipe τ us).set u none) ws = wipe τ ws
            rw [wipe_set (hu u List.mem_cons_self), ih τ fun v hv => hu v (List.mem_cons_of_mem _ hv)]
        exact ww vs vs σ fun _ h => h
      refine ⟨hwp, ?_⟩
      obtain ⟨⟨b, en4⟩, q2, hm2⟩ := Option.bind_eq_some_iff.mp hm2
      refine t2 _ _ _ I3 H3 _ b en4 R4 q2 fun I5 H5 R5 s5 => ?_
      cases b with
      | false =>
        simp only [Bool.false_eq_true, if_false] at hm2 ⊢
        have R6 := R5.wipe vs
        rw [hwp] at R6
        exact ⟨en4, I5, ks, acc, av, bs, us, R6, (s2.trans s3).trans s5, ra.mono (s3.trans s5), rvs, rks.mono (s3.trans s5), hlen0, hnk, hm2⟩
      | true =>
        simp only [if_true] at hm2 ⊢
        obtain ⟨⟨y, en5⟩, q3, hm2⟩ := Option.bind_eq_some_iff.mp hm2
        obtain ⟨ky, q4, hm2⟩ := Option.bind_eq_some_iff.mp hm2
        obtain ⟨⟨z, en6⟩, q5, hm2⟩ := Option.bind_eq_some_iff.mp hm2
        split at hm2
        · rename_i hlen
          refine k2 _ _ _ I5 H5 _ y en5 R5 q3 fun v I6 H6 R6 s6 rv => ?_
          refine v2 _ _ _ I6 H6 _ z en6 R6 q5 fun u I7 H7 R7 s7 ru => ?_
          have sx : Same I2 I7 := ((s3.trans s5).trans s6).trans s7
          obtain ⟨bk, rfl, hk⟩ := key_fix q4 rv
          have hk7 := hk.mono s7
          have hkl : ks.length = us.length := by rw [hlen0, ra.length, rvs.length]
          refine ⟨ky, bk, L, ks, bs, us, rfl, hk7.mono R7.sub, (R7.ex L _ List.mem_cons_self).1, (rks.mono sx).mono R7.sub, hkl, hnk, by rw [hlen0]; exact hlen, fun uu ruu => ?_⟩
          refine ⟨en6, I7, putN ky ks, putX ky z ks acc, putX ky u ks av, putB ky bk ks bs, putX ky uu ks us, ?_, s2.trans sx, putX_rep ru (ra.mono sx), putX_vals ruu rvs, (rks.mono sx).put hk7, put_length ky z ks acc hlen0, putN_nodup hnk, hm2⟩
          have R8 := (R7.exSet (o' := .ext (Raw L (entsN (putN ky ks) (putB ky bk ks bs) (putX ky uu ks us)))) hX).wipe vs
          rw [hwp] at R8
          exact R8
        · cases hm2
    · rintro H2 ⟨env2, I2, ks, acc, av, bs, us, R2, s2, ra, rvs, rks, hlen0, hnk, hm2⟩
      rw [List.drop_length] at hm2
      cases hm2
      have R3 := SR.back R1 vs hnd hcalm R2 s2
      obtain ⟨R4, n4⟩ := R3.take hX
      exact k L _ I2 H2 R4 (s1.trans s2) n4 (.dcn rks ra rvs hlen0 hnk)
  · cases hm
theorem pe_dn {X : Cx} {kx vx tg iter : Expr} {ifs : List Expr} {scope : Scope} {own : List (Str × Nat)} {pos : Pos} {wi : TI} {g : TG} {tt : TT} {tk tv : TE} (hu : X.A.units + 20 < cLine) (hc : X.calm = true) (hN : X.N.Nodup) (hi : PI X tg iter wi) (ok : BlkOk X.N X.env.scope scope own)
    (hg : ∀ t H C cl fp, PG (X.blk t H scope (compEnvC scope cl C X.env) fp) tg g) (ht : ∀ t H C cl fp, PTs (X.blk t H scope (compEnvC scope cl C X.env) fp) ifs tt) (hk : ∀ t H C cl fp, PE (X.blk t H scope (compEnvC scope cl C X.env) fp) kx tk) (he : ∀ t H C cl fp, PE (X.blk t H scope (compEnvC scope cl C X.env) fp) vx tv)
    (hs : ∀ x, foldedSetIterable iter X.env x = pure x) : PE X (.DictComp kx vx [⟨tg, iter, ifs, 0⟩] scope pos) (tDg wi g tt tk tv (own.map (·.2)) rawE (ssN X.K)) := by
  refine ⟨fun pins s σ H Q I h => ?_⟩
  rw [arm_eval_DictComp]
  refine dg_core hc hN I hi ok (fun H h hb => emptyN H h hb) (storeN hu) hg ht hk he hs h fun L C t' m H' I' q hn f => ⟨m, hn, fun h'' sb => ?_⟩
  obtain ⟨f0, f1, f2, f3, f4, f5⟩ := f
  exact ⟨.ref L, H', I'.turned (t' := t'.toks) (fun b o hb e => (sb.2 b hb).trans e) f0 f1 f3 f4 f5, rfl, q⟩
theorem ef_dn {kx vx tg iter : Expr} {ifs : List Expr} {scope : Scope} {own : List (Str × Nat)} {pos : Pos} {mi : MI} {ix : List Nat} {gf : D → En → Option En} {mt : MT} {mk mv : ME} (hi : IV Z tg iter mi) (ok : BlkOk Z.N Z.sc scope own) (hg : GV (ZB Z scope) tg ix gf) (ht : CV (ZB Z scope) ifs mt)
    (hk : EV (ZB Z scope) kx mk) (hv : EV (ZB Z scope) vx mv) (hnd : (own.map (·.2)).Nodup := by decide) (hix : ∀ i ∈ ix, i ∈ own.map (·.2) := by decide) (hs : ∀ env x, foldedSetIterable iter env x = pure x := by intro _ _; rfl) : EF Z (.DictComp kx vx [⟨tg, iter, ifs, 0⟩] scope pos) (mDn (own.map (·.2)) mi gf mt mk mv) := by
  obtain ⟨wi, i1, i2⟩ := hi
  obtain ⟨gt, g1, g2⟩ := hg
  obtain ⟨tt, t1, t2⟩ := ht
  obtain ⟨tk, k1, k2⟩ := hk
  obtain ⟨tv, v1, v2⟩ := hv
  exact ⟨tDg wi gt tt tk tv (own.map (·.2)) rawE (ssN Z.K), fun X k => by have q := pe_dn (X := X) (pos := pos) (by have := k.room.units; omega) k.calm k.nd (i1 X k) (by rw [k.N, k.sc]; exact ok) (fun s H C cl fp => g1 _ (inB k s H C cl fp)) (fun s H C cl fp => t1 _ (inB k s H C cl fp)) (fun s H C cl fp => k1 _ (inB k s H C cl fp)) (fun s H C cl fp => v1 _ (inB k s H C cl fp)) (hs _); rw [k.K] at q; exact q, dn_sf hnd hix i2 g2 t2 k2 v2⟩
section
open PySem.Spec PyProof.Rows
theorem ps_putDn {X : Cx} {slot : Nat} {nm : Str} {pn : Pos} {kx vx tg iter : Expr} {ifs : List Expr} {scope : Scope} {own : List (Str × Nat)} {cp sp : Pos} {wi : TI} {gg : TG} {tt : TT} {tk tv : TE} (hu : X.A.units + 20 < cLine) (hcalm : X.calm = true) (hnod : X.N.Nodup)
    (hslot : X.N[slot]? = some nm) (hloc : X.env.scope.names.lookup nm = some .local) (hswap : swapsWith (.DictComp kx vx [⟨tg, iter, ifs, 0⟩] scope cp) (some (.Name nm pn)) sp.line X.env = pure true)
    (hit : PI X tg iter wi) (hblk : BlkOk X.N X.env.scope scope own)
    (h1 : ∀ s H C cl fp, PG (X.blk s H scope (compEnvC scope cl C X.env) fp) tg gg) (h2 : ∀ s H C cl fp, PTs (X.blk s H scope (compEnvC scope cl C X.env) fp) ifs tt)
    (h3 : ∀ s H C cl fp, PE (X.blk s H scope (compEnvC scope cl C X.env) fp) kx tk) (h4 : ∀ s H C cl fp, PE (X.blk s H scope (compEnvC scope cl C X.env) fp) vx tv)
    (hfold : ∀ v, foldedSetIterable iter X.env v = pure v) :
    PS X (.Assign [.Name nm pn] (.DictComp kx vx [⟨tg, iter, ifs, 0⟩] scope cp) sp) (tAsg (tDg wi gg tt tk tv (own.map (·.2)) rawE (ssN X.K)) (gName slot)) := by
  constructor
  intro pins s σ H D J hq
  rw [exec_Assign_Name_used _ _ _ _ hswap]
  refine wpAny_bind (wpAny_standAt (wpAny_bind ?_))
  show wpAny _ X.A (do let _ ← comprehension (.DictComp kx vx [⟨tg, iter, ifs, 0⟩] scope cp) scope X.env (firstIterPos [⟨tg, iter, ifs, 0⟩] cp) newDict false (eval iter X.env) (some (assign (.Name nm pn) X.env))) _ _ s
  have hq' : tDg wi gg tt tk tv (own.map (·.2)) rawE (ssN X.K) σ H (fun x H1 => gName slot x σ H1 D.nx) := hq
  have core := dg_core (Qf := fun _ s' => SP X pins D .next s') hcalm hnod J hit hblk (fun H h hb => emptyN H h hb) (storeN hu) h1 h2 h3 h4 hfold hq' (use := some (assign (.Name nm pn) X.env)) (pos := cp) (pos' := firstIterPos [⟨tg, iter, ifs, 0⟩] cp) (fun L C s' m H' J' qq hn fr => by
    show wpAny _ _ (assign (.Name nm pn) X.env (.ref L)) _ _ _
    refine wpAny_assign_Name (store_ok2 (v := V.ref L) J' hnod hslot (.inl hloc) rfl (fun s2 J2 hs2 => ?_) (.inr hloc))
    obtain ⟨a, sb, ha⟩ := hs2
    obtain ⟨r0, r1, r2, r3, r4, r5⟩ := fr
    have hne : C ≠ a := ha.elim (fun z => z ▸ r1) (fun z e => r4 nm a z e.symm)
    exact ⟨m, hn.sameBut sb hne, fun h9 sb9 => ⟨_, H', J2.turned (t' := s2.toks) (fun b o hb e => (sb9.2 b hb).trans e) r0 r1 r3 r4 r5, qq⟩⟩)
  exact wpAny_bind (thn core fun _ s' hq2 => wpAny_pure (wpAny_pure hq2))
end
theorem sv_asgDn {i : Nat} {y : Str} {py : Pos} {kx vx tg iter : Expr} {ifs : List Expr} {scope : Scope} {own : List (Str × Nat)} {pos spos : Pos} {mi : MI} {ix : List Nat} {gf : D → En → Option En} {mt : MT} {mk mv : ME} (hN : Z.N[i]? = some y) (hy : Z.sc.names.lookup y = some .local)
    (hk : Z.sc.kind = .function) (hl : (py.line == pos.line) = true := by rfl) (ha : (scope.names.any fun q => q.1 == y && (q.2 == .local || q.2 == .cell)) = false := by decide +kernel)
    (hi : IV Z tg iter mi) (ok : BlkOk Z.N Z.sc scope own) (hg : GV (ZB Z scope) tg ix gf) (ht : CV (ZB Z scope) ifs mt)
    (hkx : EV (ZB Z scope) kx mk) (hvx : EV (ZB Z scope) vx mv) (hnd : (own.map (·.2)).Nodup := by decide) (hix : ∀ i ∈ ix, i ∈ own.map (·.2) := by decide) (hs : ∀ env x, foldedSetIterable iter env x = pure x := by intro _ _; rfl) :
    SV Z (.Assign [.Name y py] (.DictComp kx vx [⟨tg, iter, ifs, 0⟩] scope pos) spos) (mAsgF i (mDn (own.map (·.2)) mi gf mt mk mv)) := by
  obtain ⟨wi, i1, i2⟩ := hi
  obtain ⟨gt, g1, g2⟩ := hg
  obtain ⟨tt, t1, t2⟩ := ht
  obtain ⟨tk, k1, k2⟩ := hkx
  obtain ⟨tv, v1, v2⟩ := hvx
  refine ⟨tAsg (tDg wi gt tt tk tv (own.map (·.2)) rawE (ssN Z.K)) (gName i), fun X k => ?_, fun g env σ I H D fl R hm k => ?_⟩
  · have q := ps_putDn (X := X) (pn := py) (cp := pos) (sp := spos) (by have := k.room.units; omega) k.calm k.nd (by rw [k.N]; exact hN) (by rw [k.sc]; exact hy) (swap_dc (by rw [k.sc]; exact hk) (by rw [k.sc]; exact hy) hl ha) (i1 X k) (by rw [k.N, k.sc]; exact ok) (fun s H C cl fp => g1 _ (inB k s H C cl fp)) (fun s H C cl fp => t1 _ (inB k s H C cl fp)) (fun s H C cl fp => k1 _ (inB k s H C cl fp)) (fun s H C cl fp => v1 _ (inB k s H C cl fp)) (hs _)
    rw [k.K] at q
    exact q
  · unfold mAsgF at hm
    obtain ⟨r, q1, hm⟩ := Option.bind_eq_some_iff.mp hm
    split at hm
    · rename_i hi
      cases hm
      exact dn_sf hnd hix i2 g2 t2 k2 v2 g env σ I H _ r.1 r.2 R q1 fun a o I1 H1 R1 s1 n ro => k _ I1 H1 (R1.setOwn (by rw [← R1.len]; exact hi) n ro) s1
    · cases hm
end
end Q
namespace L2
open PySem PySem.Spec PyProof.Rows
section
variable {P : Program} {w : World} {A : Around} {E : Value → Shared → Prop} {s : Shared}
set_option maxHeartbeats 3200000 in
/-- set(xs), xs a list of whole numbers -/
theorem set_of_list {l : Addr} {its : Array Value} (ns : List Int) {Q : Value → Shared → Prop} (hh : A.handled = none) (hl : s.heap.IsList l its) (hit : IntsAre its.toList ns) (hb : ns.length + 1 < scanBound)
    (h : ∀ (h' : Heap) (tk c : Nat), SetR w h' s.heap.objs.size (fun j => decide (j ∈ ns)) c → c ≤ ns.length → (∀ b o, s.heap.get? b = some o → h'.get? b = some o) → Q (.ref s.heap.objs.size) { s with heap := h', toks := tk }) :
    wpAny (model P w) A (call (.type "set") [.ref l]) Q E s := by
  have isz : its.size = ns.length := by have q := IntsAre.length hit; simpa using q
  obtain ⟨c, tl, hmro⟩ := F.called_set.mro
  have k1 := F.called_set.made
  have k2 := F.called_set.sub
  refine wpAny_call (codeAny_of_tree (show wpAny _ _ (callAny (.type "set") _) _ _ _ from wpAny_pure ⟨Code.quiet_builtin _ (by decide +kernel), codeAny_builtin F.entry_type_call ?_⟩))
  rw [Around.under_plain (weight_type_call_type "set" [.ref l] []) rfl]
  have k3 := F.called_set.notType
  have k4 := F.called_set.canCreate
  have k5 := F.typeCall_set_1 (.ref l)
  repeat (any_goals (first | assumption | wp_step))
  refine codeAny_mono (code_set_led1 (.ref l) (E := E) (Q₁ := fun ob t => ob = .ref s.heap.objs.size ∧ t = { s with heap := s.heap.push { cls := .type "set", dict := none, data := .set #[] 0 (.fresh 0 0 (!w.params.followText "set-order")) } }) ⟨rfl, rfl⟩) fun r t hr => ?_
  match r, hr with
  | .error e, hr => exact hr
  | .ok .next, hr => exact hr.elim
  | .ok .brk, hr => exact hr.elim
  | .ok .cont, hr => exact hr.elim
  | .ok (.ret ob), hr =>
    obtain ⟨rfl, rfl⟩ := hr
    have gS : (s.heap.push { cls := .type "set", dict := none, data := .set #[] 0 (.fresh 0 0 (!w.params.followText "set-order")) }).get? s.heap.objs.size = some { cls := .type "set", dict := none, data := .set #[] 0 (.fresh 0 0 (!w.params.followText "set-order")) } := Heap.get?_push_size _ rfl
    have tS : Shared.TypeIs { s with heap := s.heap.push { cls := .type "set", dict := none, data := .set #[] 0 (.fresh 0 0 (!w.params.followText "set-order")) } } (.ref s.heap.objs.size) "set" := ⟨_, gS, rfl⟩
    have k6 := F.called_set.init.lookup
    have k7 := F.called_set.init.bind (.ref s.heap.objs.size)
    repeat (any_goals (first | assumption | wp_step))
    refine codeAny_mono (codeAny_call_builtin (R := wants (fun r t => r = .none ∧ ∃ h' tk c, t = { s with heap := h', toks := tk } ∧ SetR w h' s.heap.objs.size (fun j => decide (j ∈ ns)) c ∧ c ≤ ns.length ∧
        (∀ b o, s.heap.get? b = some o → h'.get? b = some o)) E) F.called_set.init.plain F.entry_set_init (check_set_init_1 tS ?_)) fun r2 t2 hr2 => ?_
    · obtain ⟨⟨ocls, odict, odata, oslots⟩, hol, hcl, nl, hdl⟩ := hl
      simp only at hcl hdl
      subst hcl; subst hdl
      have hol2 : (s.heap.push { cls := .type "set", dict := none, data := .set #[] 0 (.fresh 0 0 (!w.params.followText "set-order")) }).get? l = some { cls := .type "list", dict := odict, data := .seq its nl, slots := oslots } := Heap.get?_push_of_some _ hol
      have k8 := F.sub_list_set
      have k9 := F.sub_list_frozenset
      have k10 : (Value.type "list" == Value.type "dict") = false := by decide
      have hl1 : (s.heap.push { cls := .type "set", dict := none, data := .set #[] 0 (.fresh 0 0 (!w.params.followText "set-order")) }).IsList l its := ⟨_, hol2, rfl, nl, rfl⟩
      unfold Builtin.«set.__init__» noKeywords Builtin.Frozenset.updateFrom
      generalize hPI : pyIter = PI
      wp_walk
      subst hPI
      refine wpAny_pyIter_list hl1 (wpAny_bind (wpAny_runValue ?_))
      have lS : l < s.heap.objs.size := Heap.lt_size hol
      have nI : l ≠ (s.heap.push { cls := .type "set", dict := none, data := .set #[] 0 (.fresh 0 0 (!w.params.followText "set-order")) }).objs.size := by
        rw [Heap.size_push]; exact Nat.ne_of_lt (Nat.lt_succ_of_lt lS)
      have nS : s.heap.objs.size ∉ [(s.heap.push { cls := .type "set", dict := none, data := .set #[] 0 (.fresh 0 0 (!w.params.followText "set-order")) }).objs.size, l] := fun z => by
        rw [Heap.size_push] at z
        rcases List.mem_cons.mp z with z | z
        · exact Nat.ne_of_lt (Nat.lt_succ_self _) z
        · exact Nat.ne_of_gt lS (List.mem_singleton.mp z)
      have val : ∀ (i : Nat) (v : Value), its[i]? = some v → ∃ k t, ns[i]? = some k ∧ v = .int k t := fun i v hv => by
        have hi : i < ns.length := by rw [← isz]; exact (Array.getElem?_eq_some_iff.mp hv).1
        obtain ⟨t, e⟩ := PyProof.Rows.IntsAre.int_at hit i v (by rw [Array.getElem?_toList]; exact hv)
        exact ⟨ns[i], t, List.getElem?_eq_getElem hi, by rw [e, List.getD_eq_getElem?_getD, List.getElem?_eq_getElem hi] <;> rfl⟩
      have h3 : A.in1.in1.in1.handled = none := by simp [hh]
      refine set_update_ints ((Walks.list h3 _ l nI its).toS) s.heap.objs.size nS ns isz hb val (its.size - 0) 0 _ (by omega) (Nat.zero_le _) ⟨⟨_, Heap.get?_push_size _ rfl, rfl, rfl⟩, (hl1.push _)⟩ ?start ?behind
      case start => exact ⟨0, Nat.le_refl 0, setR_new_at (Heap.get?_push_of_some _ gS)⟩
      case behind =>
        rintro ⟨h', g2, d', tk', os'⟩ c' hm hc' hS'
        obtain rfl : g2 = s.gens := hm.gens
        obtain rfl : d' = s.drawn := hm.drawn
        obtain rfl : os' = s.os := hm.os
        rw [isz] at hc'
        refine wpAny_pure (show wpAny _ _ (ret Value.none) _ _ _ from wpAny_pure ⟨rfl, h', tk', c', rfl, hS', hc', fun b o e => ?_⟩)
        have b0 : b < s.heap.objs.size := Heap.lt_size e
        refine hm.heap b o (fun z => ?_) (Heap.get?_push_of_some _ (Heap.get?_push_of_some _ e))
        rcases List.mem_cons.mp z with z | z
        · exact Nat.ne_of_lt b0 z
        · have z := List.mem_singleton.mp z
          rw [Heap.size_push] at z
          exact Nat.ne_of_lt (Nat.lt_succ_of_lt b0) z
    · match r2, hr2 with
      | .error e, hr2 => exact hr2
      | .ok .next, hr2 => exact hr2.elim
      | .ok .brk, hr2 => exact hr2.elim
      | .ok .cont, hr2 => exact hr2.elim
      | .ok (.ret r), hr2 =>
        obtain ⟨rfl, h', tk, c', rfl, hS', hc', hk'⟩ := hr2
        repeat (any_goals (first | assumption | wp_step))
        exact h _ _ _ hS' hc' hk'
end
end L2
namespace Q
open PySem PySem.Spec L2
section
variable {Z : Zc}
/-! ## sorted(set(xs)) of whole numbers -/
/-- the members, ascending, each once -/
def insI (a : Int) : List Int → List Int
  | [] => [a]
  | b :: l => if a < b then a :: b :: l else if a = b then b :: l else b :: insI a l
def ascI (ns : List Int) : List Int := ns.foldr insI []
theorem ins_mem (a k : Int) : ∀ l : List Int, k ∈ insI a l ↔ k = a ∨ k ∈ l
  | [] => by simp [insI]
  | b :: l => by
    unfold insI
    split
    · simp
    · split
      · rename_i h; subst h; simp
      · simp only [List.mem_cons, ins_mem a k l]
        constructor
        · rintro (h | h | h) <;> simp [h]
        · rintro (h | h | h) <;> simp [h]
theorem ins_pair (a : Int) : ∀ l : List Int, l.Pairwise (· < ·) → (insI a l).Pairwise (· < ·)
  | [], _ => by simp [insI]
  | b :: l, h => by
    obtain ⟨h1, h2⟩ := List.pairwise_cons.mp h
    unfold insI
    split
    · rename_i hab
      refine List.pairwise_cons.mpr ⟨fun c hc => ?_, h⟩
      rcases List.mem_cons.mp hc with rfl | hc
      · exact hab
      · have := h1 c hc; omega
    · split
      · exact h
      · refine List.pairwise_cons.mpr ⟨fun c hc => ?_, ins_pair a l h2⟩
        rcases (ins_mem a c l).mp hc with rfl | hc
        · omega
        · exact h1 c hc
theorem asc_pair : ∀ ns : List Int, (ascI ns).Pairwise (· < ·)
  | [] => List.Pairwise.nil
  | n :: ns => ins_pair n _ (asc_pair ns)
theorem asc_mem (k : Int) : ∀ ns : List Int, k ∈ ascI ns ↔ k ∈ ns
  | [] => Iff.rfl
  | n :: ns => by
    show k ∈ insI n (ascI ns) ↔ _
    rw [ins_mem, asc_mem k ns, List.mem_cons]
def dSetSort : List D → Option D
  | [.lst ds] => (intsD ds).bind fun ns => if ns.length ≤ 60 then some (.lst ((ascI ns).map .int)) else none
  | _ => none
theorem asc_eq {ns ms : List Int} (h1 : ms.Pairwise (· < ·)) (h2 : ∀ k, k ∈ ms ↔ k ∈ ns) : ms = ascI ns := by
  have h3 := asc_pair ns
  refine List.Perm.eq_of_pairwise (le := (· < ·)) (fun a b _ _ x y => by omega) h1 h3 ?_
  have n1 : ms.Nodup := h1.imp fun h => by omega
  have n2 : (ascI ns).Nodup := h3.imp fun h => by omega
  exact (List.perm_ext_iff_of_nodup n1 n2).mpr fun k => by rw [h2, asc_mem]
theorem intsOfVals : ∀ {ns : List Int} {us : List Value}, Vals (ns.map V.int) us → PyProof.Rows.IntsAre us ns
  | [], _, .nil => .nil
  | n :: ns, _, .cons r t => by
    obtain ⟨k, rfl⟩ := r
    exact .cons n k (intsOfVals t)
def tSS (K : PySem.W.Frag) (ta : TE) : TE := fun σ H Q => ta σ H fun x H1 => ∃ (l : Addr) (ns : List Int), x = .ref l ∧ SqL K H1 l (ns.map V.int) ∧ ns.length ≤ 60 ∧ ∀ p, H1 p = none → Q (.ref p) (upd H1 p (.lst ((ascI ns).map V.int)))
theorem pe_setSort {X : Cx} {a : Expr} {ta : TE} {p p2 q pos : Pos} (hg : Gl X "sorted") (hm : X.mg "sorted" = none) (hg2 : Gl X "set") (hm2 : X.mg "set" = none) (ha : PE X a ta) (hc : X.calm = true)
    (na : starEach [a] X.env = (false, eval a X.env) :: starEach [] X.env) : PE X (.Call (.Name "sorted" p) [.Call (.Name "set" p2) [a] [] q] [] pos) (tSS X.K ta) := by
  refine ⟨fun pins s σ H Q I h => ?_⟩
  refine wpAny_Call_Name_kw (ld_blt I hg hm (u := .builtin "sorted") (by decide +kernel) ?_)
  refine PyProof.Rows.callWith_builtin1 (PyProof.Rows.args_cons ?_ rfl) rfl rfl
  refine wpAny_Call_Name_kw (ld_blt I hg2 hm2 PyProof.Rows.boot_set ?_)
  refine PyProof.Rows.callWith_type1 (PyProof.Rows.args_cons (thn (ha.run pins s σ H _ I h) fun v s1 ⟨x, H1, I1, r1, l, ns, ex, hq, hl, q1⟩ => PyProof.Rows.args_nil ?_) na) na rfl
  subst ex
  cases r1
  obtain ⟨its, r, pl, hz⟩ := I1.list hq
  have hd := I1.ok.hd hc
  refine set_of_list ns hd pl.isList (by simpa using intsOfVals r) (by unfold scanBound; omega) fun h' tk c R hcn k => ?_
  refine PyProof.Rows.args_nil ?_
  have I2 : Inv X pins σ H1 { s1 with heap := h', toks := tk } := I1.kept k
  refine sorted_set (s := { s1 with heap := h', toks := tk }) R hd (by omega) fun s' p out c2 ms k2 g o hp hg2 hi hs hm hl2 => ?_
  obtain ⟨h2, gg, d2, t2, o2⟩ := s'
  obtain rfl : gg = s1.gens := g
  obtain rfl : o2 = s1.os := o
  have em : ms = ascI ns := asc_eq hs fun j => by rw [hm, decide_eq_true_eq]
  subst em
  have hn : H1 p = none := I2.hok.fresh hp
  have hlen : ((ascI ns).map V.int).length ≤ sizeLine := by rw [List.length_map, hl2, sizeLine_eq]; omega
  have k3 : ∀ (b : Addr) (o : Obj), h'.get? b = some o → h2.get? b = some o := k2
  have hp3 : h'.objs.size ≤ p := hp
  have ob : ObjOk X.prog X.w (upd H1 p (.lst ((ascI ns).map V.int))) h2 p (.lst ((ascI ns).map V.int)) := ⟨hlen, out.toList, c2, vals_of_ints hi, hg2⟩
  have hok2 : HOk X.prog X.w H1 h' := I2.hok
  have un : Un (frs X.stack) [] H1 (upd H1 p (.lst ((ascI ns).map V.int))) h' h2 := Un.laid k3 hp3 hn
  exact ⟨.ref p, _, Inv.call (s := { s1 with heap := h', toks := tk }) I2 (ch := []) (h' := h2) (g' := s1.gens) (d' := d2) (t' := t2) un (hok2.laid k3 hp3 ob) I2.bare (fun _ z => nomatch z), rfl, q1 p hn⟩
theorem ef_setSort {a : Expr} {m : ML} {p p2 q pos : Pos} (hg : GlZ Z "sorted") (hm : Z.mg "sorted" = none) (hg2 : GlZ Z "set") (hm2 : Z.mg "set" = none) (ha : LV Z a m)
    (na : ∀ env, starEach [a] env = (false, eval a env) :: starEach [] env := by intro _; rfl) : EF Z (.Call (.Name "sorted" p) [.Call (.Name "set" p2) [a] [] q] [] pos) (mBi dSetSort (bCons m bNil)) := by
  obtain ⟨t, a1, a2⟩ := ha
  refine ⟨tSS Z.K t, fun X i => by have w := pe_setSort (X := X) (p := p) (p2 := p2) (q := q) (pos := pos) (glOf i hg) (by rw [i.mg]; exact hm) (glOf i hg2) (by rw [i.mg]; exact hm2) (a1 X i) i.calm (na _); rw [i.K] at w; exact w, fun g env σ I H Q d env' R hm k => ?_⟩
  unfold mBi at hm
  obtain ⟨⟨ls, en⟩, e1, hm⟩ := Option.bind_eq_some_iff.mp hm
  obtain ⟨ds, e2, hm⟩ := Option.bind_eq_some_iff.mp hm
  obtain ⟨z, e3, hm⟩ := Option.map_eq_some_iff.mp hm
  cases hm
  unfold bCons at e1
  obtain ⟨⟨l, en1⟩, e4, e1⟩ := Option.bind_eq_some_iff.mp e1
  obtain ⟨⟨ls2, en2⟩, e5, e1⟩ := Option.map_eq_some_iff.mp e1
  cases e5
  cases e1
  refine a2 g env σ I H _ _ _ R e4 fun v I1 H1 R1 s1 ov => ?_
  have rb := lsGet_rbs (ls := [l]) R1 (.cons ov .nil) e2
  unfold dSetSort at e3
  split at e3
  · rename_i ds'
    obtain ⟨v', hv, r⟩ := rb.one
    cases hv
    obtain ⟨ns, e6, e3⟩ := Option.bind_eq_some_iff.mp e3
    split at e3
    · rename_i hl
      cases e3
      obtain ⟨b, us, rfl, h1, h2⟩ := r.lst R1.sub
      have e7 := ints_rep e6 h2
      subst e7
      exact ⟨b, ns, rfl, SqL.of h1, hl, fun p hp => k p _ I1 _ (R1.alloc hp _) s1 (R1.new hp) (.lst (reps_ints _))⟩
    · cases e3
  · cases e3
end
end Q
namespace Q
open PySem L2
section
variable {Z : Zc}
/-! ## in, over a list of deep items -/
def dInP (neg : Bool) (x y : D) : Option D := match y with
  | .lst ys => (toP x).bind fun d => (toPs ys).bind fun ds => if (SeqAt.shaped d && SeqAt.shaped (.list ds)) = true then some (.bl (if neg then !(ds.any fun z => PyData.eqv z d) else ds.any fun z => PyData.eqv z d)) else none
  | _ => none
theorem or_inP {X : Cx} (h : InF Z X) : OpR X (compareOp .In) (rInD Z.K) := by
  rw [← h.K]
  exact op_inD (by have := h.room.un; omega)
theorem or_ninP {X : Cx} (h : InF Z X) : OpR X (compareOp .NotIn) (rNotInD Z.K) := by
  rw [← h.K]
  exact op_notInD (by have := h.room.un; omega)
theorem dInP_inv {neg : Bool} {x y z : D} (h : dInP neg x y = some z) : ∃ d ds, toP x = some d ∧ toP y = some (.list ds) ∧ SeqAt.shaped d = true ∧ SeqAt.shaped (.list ds) = true ∧ z = .bl (if neg then !(ds.any fun z => PyData.eqv z d) else ds.any fun z => PyData.eqv z d) := by
  unfold dInP at h
  split at h
  · rename_i ys
    cases e1 : toP x with
    | none => rw [e1] at h; cases h
    | some d =>
      cases e2 : toPs ys with
      | none => rw [e1, e2] at h; cases h
      | some ds =>
        rw [e1, e2] at h
        simp only [Option.bind_some] at h
        split at h
        · rename_i hs
          rw [Bool.and_eq_true] at hs
          cases h
          exact ⟨d, ds, rfl, by unfold toP; rw [e2]; rfl, hs.1, hs.2, rfl⟩
        · cases h
  · cases h
theorem ok_inP : RuleOk Z (rInD Z.K) (dInP false) := by
  intro I H x y z vx vy Q s rx ry h k
  obtain ⟨d, ds, h1, h2, h3, h4, rfl⟩ := dInP_inv h
  exact ⟨d, ds, rx.dp s h1, ry.dp s h2, h3, h4, k _ .bl⟩
theorem ok_ninP : RuleOk Z (rNotInD Z.K) (dInP true) := by
  intro I H x y z vx vy Q s rx ry h
  obtain ⟨d, ds, h1, h2, h3, h4, rfl⟩ := dInP_inv h
  intro k
  exact ⟨d, ds, rx.dp s h1, ry.dp s h2, h3, h4, k _ .bl⟩
end
end Q
namespace Q
open PySem L2
section
variable {Z : Zc}
/-! ## comprehensions over a list that stays its slot's own -/
theorem SR.park {K : PySem.W.Frag} {cl : String → Option Addr} {g : G} {env : En} {σ : L2.St} {I H : Hp} (R : SR K cl g env σ I H) {i : Nat} {xs : List D} (hs : env[i]? = some (.own (.lst xs))) :
    ∃ a vs, σ[i]? = some (some (.ref a)) ∧ Reps K cl I xs vs ∧ (∀ u, (a, u) ∉ g.X) ∧ SR K cl (g.beside a (.lst vs)) (env.set i .un) σ I H := by
  obtain ⟨x, hx, q⟩ := R.at_ i _ hs
  obtain ⟨a, o, rfl, h1, r, h2, h3⟩ := q
  cases r with
  | lst ra =>
    rename_i vs
    have hX : ∀ u, (a, u) ∉ g.X := fun u hu => (R.ex a u hu).2.2 i _ hs rfl hx
    obtain ⟨hi, he⟩ := List.getElem?_eq_some_iff.mp hx
    have hself : σ.set i (some (.ref a)) = σ := by rw [← he]; exact List.set_getElem_self hi
    have R1 := R.setUn hi (x := some (.ref a))
    rw [hself] at R1
    refine ⟨a, vs, hx, ra, hX, R1.put ⟨h1, h2, h3, fun j s hj ht e => ?_, hX⟩⟩
    by_cases hji : i = j
    · subst hji
      rw [List.getElem?_set_self (by rw [R.len]; exact hi)] at hj
      cases hj; cases ht
    · rw [List.getElem?_set_ne hji] at hj
      exact R.dis i j _ s a hji hs hj rfl ht hx e
theorem SR.unpark {K : PySem.W.Frag} {cl : String → Option Addr} {g : G} {env : En} {σ : L2.St} {I H : Hp} {a L : Addr} {vs : List V} {o : HO} (R : SR K cl (g.beside a (.lst vs)) env σ I H) {i : Nat} {xs : List D} (hX : ∀ u, (a, u) ∉ g.X) (hx : σ[i]? = some (some (.ref a))) (ra : Reps K cl I xs vs)
    (n : New (g.beside a (.lst vs)) env σ I H L o) : SR K cl g (env.set i (.own (.lst xs))) σ I H ∧ New g (env.set i (.own (.lst xs))) σ I H L o := by
  obtain ⟨R1, n1⟩ := R.take hX
  obtain ⟨hi, he⟩ := List.getElem?_eq_some_iff.mp hx
  have hself : σ.set i (some (.ref a)) = σ := by rw [← he]; exact List.set_getElem_self hi
  have R2 := R1.setOwn hi n1 (.lst ra)
  rw [hself] at R2
  refine ⟨R2, n.at_, n.i, n.h0, fun j s hj ht e => ?_, fun u hu => n.x u (List.mem_cons_of_mem _ hu)⟩
  by_cases hji : i = j
  · subst hji
    rw [hx] at e
    cases e
    exact n.x _ List.mem_cons_self
  · rw [List.getElem?_set_ne hji] at hj
    exact n.no j s hj ht e
def mLcP (w : Nat) (vs : List Nat) (gf : D → En → Option En) (mt : MT) (me : ME) : ME := fun env => match env[w]? with
  | some (.own (.lst xs)) => if calmAt (env.set w .un) vs = true then (lcLoop gf mt me vs xs [] (env.set w .un)).map fun q => (.lst q.1, (backE (env.set w .un) (wipeE q.2 vs) vs).set w (.own (.lst xs))) else none
  | _ => none
def mDnP (w : Nat) (vs : List Nat) (gf : D → En → Option En) (mt : MT) (mk mv : ME) : ME := fun env => match env[w]? with
  | some (.own (.lst xs)) => if calmAt (env.set w .un) vs = true then (dnLoop gf mt mk mv vs xs [] [] (env.set w .un)).map fun q => (.dcn q.1 q.2.1, (backE (env.set w .un) (wipeE q.2.2 vs) vs).set w (.own (.lst xs))) else none
  | _ => none
theorem lcP_sf {w : Nat} {gt : TG} {tt : TT} {te : TE} {vs : List Nat} {gf : D → En → Option En} {mt : MT} {me : ME} {ix : List Nat} (hnd : vs.Nodup) (hix : ∀ i ∈ ix, i ∈ vs)
    (g2 : ∀ (g : G) (env : En) (σ : St) (I H : Hp) (d : D) (v : V) (Q : St → Hp → Prop) (env' : En), SR Z.K Z.cl g env σ I H → Rep Z.K Z.cl I d v → gf d env = some env' →
      (∀ σ', SR Z.K Z.cl g env' σ' I H → (∀ vs, (∀ i ∈ ix, i ∈ vs) → wipe σ' vs = wipe σ vs) → Q σ' H) → gt v σ H Q)
    (t2 : ST Z tt mt) (e2 : SE Z te me) : SF Z (tLc (iList Z.K (tVar w)) gt tt te vs) (mLcP w vs gf mt me) := by
  intro g0 env σ I H Q d env' R hm k
  unfold mLcP at hm
  split at hm
  · rename_i ds hs
    obtain ⟨a, ws, hxa, rws, hXa, R1⟩ := R.park hs
    split at hm
    · rename_i hcalm
      cases e3 : lcLoop gf mt me vs ds [] (env.set w .un) with
      | none => rw [e3] at hm; cases hm
      | some q =>
        obtain ⟨fin, enf⟩ := q
        rw [e3] at hm; cases hm
        have ha := (R1.ex a _ List.mem_cons_self).1
        refine ⟨_, hxa, a, rfl, ⟨ws, SqL.of ha⟩, fun L hL => ?_⟩
        have hw := walk_list (K := Z.K) (a := a) (xs := ws)
        have hl2 : ws.length = ds.length := rws.length.symm
        obtain ⟨g, hg⟩ : ∃ g, g = g0.beside a (.lst ws) := ⟨_, rfl⟩
        rw [← hg] at R1
        have hin : (a, HO.lst ws) ∈ g.X := by rw [hg]; exact List.mem_cons_self
        have hX : ∀ u, (L, u) ∉ g.X := (R1.new (o := .lst []) hL).x
        refine lc_it hw (fun i H' => ∃ env' I' acc av, SR Z.K Z.cl (g.beside L (.lst av)) (wipeE env' vs) (wipe σ vs) I' H' ∧ Same I I' ∧ Reps Z.K Z.cl I' acc av ∧ lcLoop gf mt me vs (ds.drop i) acc env' = some (fin, enf))
          ⟨env.set w .un, I, [], [], ((R1.alloc hL _).put (R1.new hL)).wipe vs, Same.refl _, .nil, e3⟩ (fun i H' _ ⟨env', I', acc, av, R', s', _⟩ => SqL.of (R'.ex a _ (List.mem_cons_of_mem _ hin)).1) ?_ ?_
        · rintro i x H2 H3 hlt ⟨env2, I2, acc, av, R2, s2, ra, hm2⟩ hyld
          rw [hl2] at hlt
          have hdrop : ds.drop i = ds[i] :: ds.drop (i + 1) := List.drop_eq_getElem_cons hlt
          rw [hdrop] at hm2
          obtain ⟨rfl, hx⟩ := hyld
          have s3 : Same I2 I2 := Same.refl _
          have R3 := R2
          have r3 : Rep Z.K Z.cl I2 ds[i] x := by
            obtain ⟨v, hv, rv⟩ := rws.get (List.getElem?_eq_getElem hlt)
            rw [hv] at hx; cases hx
            exact rv.mono s2
          have I3e : I2 = I2 := rfl
          unfold lcLoop at hm2
          cases q1 : gf ds[i] (wipeE env2 vs) with
          | none => rw [q1] at hm2; cases hm2
          | some en3 =>
            rw [q1] at hm2; simp only [Option.bind_some] at hm2
            refine g2 _ _ _ I2 H3 ds[i] x _ en3 R3 r3 q1 fun σ4 R4 w4 => ?_
            have hwp : wipe σ4 vs = wipe σ vs := by
              rw [w4 vs hix]
              have ww : ∀ (ws us : List Nat) (τ : St), (∀ u ∈ us, u ∈ ws) → wipe (wipe τ us) ws = wipe τ ws := by
                intro ws us
                induction us with
                | nil => intro τ _; rfl
                | cons u us ih =>
                  intro τ hu
                  show wipe ((wipe τ us).set u none) ws = wipe τ ws
                  rw [wipe_set (hu u List.mem_cons_self), ih τ fun v hv => hu v (List.mem_cons_of_mem _ hv)]
              exact ww vs vs σ fun _ h => h
            refine ⟨hwp, ?_⟩
            cases q2 : mt en3 with
            | none => rw [q2] at hm2; cases hm2
            | some p2 =>
              obtain ⟨b, en4⟩ := p2
              rw [q2] at hm2; simp only [Option.bind_some] at hm2
              refine t2 _ _ _ I2 H3 _ b en4 R4 q2 fun I5 H5 R5 s5 => ?_
              cases b with
              | false =>
                simp only [Bool.false_eq_true, if_false] at hm2 ⊢
                have R6 := R5.wipe vs
                rw [hwp] at R6
                exact ⟨en4, I5, acc, av, R6, (s2.trans s3).trans s5, ra.mono (s3.trans s5), hm2⟩
              | true =>
                simp only [if_true] at hm2 ⊢
                cases q3 : me en4 with
                | none => rw [q3] at hm2; cases hm2
                | some p3 =>
                  obtain ⟨y, en5⟩ := p3
                  rw [q3] at hm2; simp only [Option.bind_some] at hm2
                  split at hm2
                  · rename_i hlen
                    refine e2 _ _ _ I5 H5 _ y en5 R5 q3 fun v I6 H6 R6 s6 rv => ?_
                    have ra6 := ra.mono ((s3.trans s5).trans s6)
                    refine ⟨av, (R6.ex L _ List.mem_cons_self).1, by rw [← ra.length]; exact hlen, en5, I6, acc ++ [y], av ++ [v], ?_, ((s2.trans s3).trans s5).trans s6, ra6.append (.cons rv .nil), hm2⟩
                    have R7 := (R6.exSet (o' := .lst (av ++ [v])) hX).wipe vs
                    rw [hwp] at R7
                    exact R7
                  · cases hm2
        · rintro H2 ⟨env2, I2, acc, av, R2, s2, ra, hm2⟩
          rw [hl2, List.drop_length] at hm2
          cases hm2
          have R3 := SR.back R1 vs hnd hcalm R2 s2
          obtain ⟨R4, n4⟩ := R3.take hX
          rw [hg] at R4 n4
          obtain ⟨R5, n5⟩ := R4.unpark hXa hxa (rws.mono s2) n4
          exact k L _ I2 H2 R5 s2 n5 (.lst ra)
    · cases hm
  · cases hm
/-- y = [..] on one line -/
theorem sv_asgLcP {i w : Nat} {yw : Str} {pw : Pos} {y : Str} {py : Pos} {elt tg : Expr} {ifs : List Expr} {scope : Scope} {own : List (Str × Nat)} {pos spos : Pos} {ix : List Nat} {gf : D → En → Option En} {mt : MT} {me : ME} (hN : Z.N[i]? = some y) (hy : Z.sc.names.lookup y = some .local)
    (hk : Z.sc.kind = .function) (hdw : (yw == ("__debug__" : Str)) = false := by decide) (hcw : (yw == ("__classdict__" : Str)) = false := by decide) (hl : (py.line == pos.line) = true := by rfl) (ha : (scope.names.any fun (n, k) => n == y && (k == .local || k == .cell)) = false := by decide +kernel)
    (hNw : Z.N[w]? = some yw) (hvw : Vis Z.sc yw) (ok : BlkOk Z.N Z.sc scope own) (hg : GV (ZB Z scope) tg ix gf) (ht : CV (ZB Z scope) ifs mt)
    (he : EV (ZB Z scope) elt me) (hnd : (own.map (·.2)).Nodup := by decide) (hix : ∀ i ∈ ix, i ∈ own.map (·.2) := by decide) (hs : ∀ env x, foldedSetIterable (.Name yw pw) env x = pure x := by intro _ _; rfl) :
    SV Z (.Assign [.Name y py] (.ListComp elt [⟨tg, (.Name yw pw), ifs, 0⟩] scope pos) spos) (mAsgF i (mLcP w (own.map (·.2)) gf mt me)) := by
  have i1 : ∀ X, InF Z X → PI X tg (.Name yw pw) (iList Z.K (tVar w)) := fun X k => by
    have q := pi_list (X := X) (tg := tg) (pe_var (pos := pw) (by rw [k.N]; exact hNw) (visOf k hvw) hdw hcw)
    rw [k.K] at q
    exact q
  obtain ⟨gt, g1, g2⟩ := hg
  obtain ⟨tt, t1, t2⟩ := ht
  obtain ⟨te, e1, e2⟩ := he
  refine ⟨_, fun X k => ps_setLc k.calm k.nd (by rw [k.N]; exact hN) (by rw [k.sc]; exact hy) (sw_true (by rw [k.sc]; exact hk) (by rw [k.sc]; exact hy) hl ha) (i1 X k) (by rw [k.N, k.sc]; exact ok) (fun s H C cl fp => g1 _ (inB k s H C cl fp)) (fun s H C cl fp => t1 _ (inB k s H C cl fp)) (fun s H C cl fp => e1 _ (inB k s H C cl fp)) (hs _), fun g env σ I H D fl R hm k => ?_⟩
  unfold mAsgF at hm
  cases q1 : mLcP w (own.map (·.2)) gf mt me env with
  | none => rw [q1] at hm; cases hm
  | some r =>
    rw [q1] at hm
    simp only [Option.bind_some] at hm
    split at hm
    · rename_i hi
      cases hm
      exact lcP_sf hnd hix g2 t2 e2 g env σ I H _ r.1 r.2 R q1 fun a o I1 H1 R1 s1 n ro => k _ I1 H1 (R1.setOwn (by rw [← R1.len]; exact hi) n ro) s1
    · cases hm
end
section
open Nd PySem L2
variable {Z : Zc}
theorem dnP_sf {w : Nat} {gt : TG} {tt : TT} {tk tv : TE} {vs : List Nat} {gf : D → En → Option En} {mt : MT} {mk mv : ME} {ix : List Nat} (hnd : vs.Nodup) (hix : ∀ i ∈ ix, i ∈ vs)
    (g2 : ∀ (g : G) (env : En) (σ : L2.St) (I H : Hp) (d : D) (v : V) (Q : L2.St → Hp → Prop) (env' : En), SR Z.K Z.cl g env σ I H → Rep Z.K Z.cl I d v → gf d env = some env' →
      (∀ σ', SR Z.K Z.cl g env' σ' I H → (∀ vs, (∀ i ∈ ix, i ∈ vs) → wipe σ' vs = wipe σ vs) → Q σ' H) → gt v σ H Q)
    (t2 : ST Z tt mt) (k2 : SE Z tk mk) (v2 : SE Z tv mv) : SF Z (tDg (iList Z.K (tVar w)) gt tt tk tv vs rawE (ssN Z.K)) (mDnP w vs gf mt mk mv) := by
  intro g0 env σ I H Q d env' R hm k
  unfold mDnP at hm
  split at hm
  · rename_i ds hs
    obtain ⟨a, ws, hxa, rws, hXa, R1⟩ := R.park hs
    split at hm
    rotate_left
    · cases hm
    rename_i hcalm
    obtain ⟨⟨kf, fin, enf⟩, e3, hm⟩ := Option.map_eq_some_iff.mp hm
    cases hm
    have ha := (R1.ex a _ List.mem_cons_self).1
    refine ⟨_, hxa, a, rfl, ⟨ws, SqL.of ha⟩, fun L hL => ?_⟩
    have hw := walk_list (K := Z.K) (a := a) (xs := ws)
    have hl2 : ws.length = ds.length := rws.length.symm
    obtain ⟨g, hg⟩ : ∃ g, g = g0.beside a (.lst ws) := ⟨_, rfl⟩
    rw [← hg] at R1
    have hin : (a, HO.lst ws) ∈ g.X := by rw [hg]; exact List.mem_cons_self
    have hX : ∀ u, (L, u) ∉ g.X := (R1.new (o := rawE L) hL).x
    refine it_g (e0 := rawE) (SS := ssN Z.K) (H1 := H) (L := L) hw (fun i H' => ∃ env' I' ks acc av bs us, SR Z.K Z.cl (g.beside L (.ext (Raw L (entsN ks bs us)))) (wipeE env' vs) (wipe σ vs) I' H' ∧ Same I I' ∧ Reps Z.K Z.cl I' acc av ∧ Vals av us ∧ KeysAt Z.K I' ks bs ∧ ks.length = acc.length ∧ ks.Nodup ∧ dnLoop gf mt mk mv vs (ds.drop i) ks acc env' = some (kf, fin, enf))
      ⟨env.set w .un, I, [], [], [], [], [], ((R1.alloc hL _).put (R1.new hL)).wipe vs, Same.refl _, .nil, .nil, .nil, rfl, List.nodup_nil, e3⟩ (fun i H' _ ⟨env', I', ks, acc, av, bs, us, R', s', _⟩ => SqL.of (R'.ex a _ (List.mem_cons_of_mem _ hin)).1) ?_ ?_
    · rintro i x H2 H3 hlt ⟨env2, I2, ks, acc, av, bs, us, R2, s2, ra, rvs, rks, hlen0, hnk, hm2⟩ hyld
      rw [hl2] at hlt
      have hdrop : ds.drop i = ds[i] :: ds.drop (i + 1) := List.drop_eq_getElem_cons hlt
      rw [hdrop] at hm2
      obtain ⟨rfl, hx⟩ := hyld
      have s3 : Same I2 I2 := Same.refl _
      have R3 := R2
      have r3 : Rep Z.K Z.cl I2 ds[i] x := by
        obtain ⟨v, hv, rv⟩ := rws.get (List.getElem?_eq_getElem hlt)
        rw [hv] at hx; cases hx
        exact rv.mono s2
      unfold dnLoop at hm2
      obtain ⟨en3, q1, hm2⟩ := Option.bind_eq_some_iff.mp hm2
      refine g2 _ _ _ I2 H3 ds[i] x _ en3 R3 r3 q1 fun σ4 R4 w4 => ?_
      have hwp : wipe σ4 vs = wipe σ vs := by
        rw [w4 vs hix]
        have ww : ∀ (ws us : List Nat) (τ : L2.St), (∀ u ∈ us, u ∈ ws) → wipe (wipe τ us) ws = wipe τ ws := by
          intro ws us
          induction us with
          | nil => intro τ _; rfl
          | cons u us ih =>
            intro τ hu
            show wipe ((wipe τ us).set u none) ws = wipe τ ws
            rw [wipe_set (hu u List.mem_cons_self), ih τ fun v hv => hu v (List.mem_cons_of_mem _ hv)]
        exact ww vs vs σ fun _ h => h
      refine ⟨hwp, ?_⟩
      obtain ⟨⟨b, en4⟩, q2, hm2⟩ := Option.bind_eq_some_iff.mp hm2
      refine t2 _ _ _ I2 H3 _ b en4 R4 q2 fun I5 H5 R5 s5 => ?_
      cases b with
      | false =>
        simp only [Bool.false_eq_true, if_false] at hm2 ⊢
        have R6 := R5.wipe vs
        rw [hwp] at R6
        exact ⟨en4, I5, ks, acc, av, bs, us, R6, (s2.trans s3).trans s5, ra.mono (s3.trans s5), rvs, rks.mono (s3.trans s5), hlen0, hnk, hm2⟩
      | true =>
        simp only [if_true] at hm2 ⊢
        obtain ⟨⟨y, en5⟩, q3, hm2⟩ := Option.bind_eq_some_iff.mp hm2
        obtain ⟨ky, q4, hm2⟩ := Option.bind_eq_some_iff.mp hm2
        obtain ⟨⟨z, en6⟩, q5, hm2⟩ := Option.bind_eq_some_iff.mp hm2
        split at hm2
        · rename_i hlen
          refine k2 _ _ _ I5 H5 _ y en5 R5 q3 fun v I6 H6 R6 s6 rv => ?_
          refine v2 _ _ _ I6 H6 _ z en6 R6 q5 fun u I7 H7 R7 s7 ru => ?_
          have sx : Same I2 I7 := ((s3.trans s5).trans s6).trans s7
          obtain ⟨bk, rfl, hk⟩ := key_fix q4 rv
          have hk7 := hk.mono s7
          have hkl : ks.length = us.length := by rw [hlen0, ra.length, rvs.length]
          refine ⟨ky, bk, L, ks, bs, us, rfl, hk7.mono R7.sub, (R7.ex L _ List.mem_cons_self).1, (rks.mono sx).mono R7.sub, hkl, hnk, by rw [hlen0]; exact hlen, fun uu ruu => ?_⟩
          refine ⟨en6, I7, putN ky ks, putX ky z ks acc, putX ky u ks av, putB ky bk ks bs, putX ky uu ks us, ?_, s2.trans sx, putX_rep ru (ra.mono sx), putX_vals ruu rvs, (rks.mono sx).put hk7, put_length ky z ks acc hlen0, putN_nodup hnk, hm2⟩
          have R8 := (R7.exSet (o' := .ext (Raw L (entsN (putN ky ks) (putB ky bk ks bs) (putX ky uu ks us)))) hX).wipe vs
          rw [hwp] at R8
          exact R8
        · cases hm2
    · rintro H2 ⟨env2, I2, ks, acc, av, bs, us, R2, s2, ra, rvs, rks, hlen0, hnk, hm2⟩
      rw [hl2, List.drop_length] at hm2
      cases hm2
      have R3 := SR.back R1 vs hnd hcalm R2 s2
      obtain ⟨R4, n4⟩ := R3.take hX
      rw [hg] at R4 n4
      obtain ⟨R5, n5⟩ := R4.unpark hXa hxa (rws.mono s2) n4
      exact k L _ I2 H2 R5 s2 n5 (.dcn rks ra rvs hlen0 hnk)
  · cases hm
theorem sv_asgDnP {i w : Nat} {yw : Str} {pw : Pos} {y : Str} {py : Pos} {kx vx tg : Expr} {ifs : List Expr} {scope : Scope} {own : List (Str × Nat)} {pos spos : Pos} {ix : List Nat} {gf : D → En → Option En} {mt : MT} {mk mv : ME} (hN : Z.N[i]? = some y) (hy : Z.sc.names.lookup y = some .local)
    (hk : Z.sc.kind = .function) (hdw : (yw == ("__debug__" : Str)) = false := by decide) (hcw : (yw == ("__classdict__" : Str)) = false := by decide) (hl : (py.line == pos.line) = true := by rfl) (ha : (scope.names.any fun q => q.1 == y && (q.2 == .local || q.2 == .cell)) = false := by decide +kernel)
    (hNw : Z.N[w]? = some yw) (hvw : Vis Z.sc yw) (ok : BlkOk Z.N Z.sc scope own) (hg : GV (ZB Z scope) tg ix gf) (ht : CV (ZB Z scope) ifs mt)
    (hkx : EV (ZB Z scope) kx mk) (hvx : EV (ZB Z scope) vx mv) (hnd : (own.map (·.2)).Nodup := by decide) (hix : ∀ i ∈ ix, i ∈ own.map (·.2) := by decide) (hs : ∀ env x, foldedSetIterable (.Name yw pw) env x = pure x := by intro _ _; rfl) :
    SV Z (.Assign [.Name y py] (.DictComp kx vx [⟨tg, (.Name yw pw), ifs, 0⟩] scope pos) spos) (mAsgF i (mDnP w (own.map (·.2)) gf mt mk mv)) := by
  have i1 : ∀ X, InF Z X → PI X tg (.Name yw pw) (iList Z.K (tVar w)) := fun X k => by
    have q := pi_list (X := X) (tg := tg) (pe_var (pos := pw) (by rw [k.N]; exact hNw) (visOf k hvw) hdw hcw)
    rw [k.K] at q
    exact q
  obtain ⟨gt, g1, g2⟩ := hg
  obtain ⟨tt, t1, t2⟩ := ht
  obtain ⟨tk, k1, k2⟩ := hkx
  obtain ⟨tv, v1, v2⟩ := hvx
  refine ⟨tAsg (tDg (iList Z.K (tVar w)) gt tt tk tv (own.map (·.2)) rawE (ssN Z.K)) (gName i), fun X k => ?_, fun g env σ I H D fl R hm k => ?_⟩
  · have q := ps_putDn (X := X) (pn := py) (cp := pos) (sp := spos) (by have := k.room.units; omega) k.calm k.nd (by rw [k.N]; exact hN) (by rw [k.sc]; exact hy) (swap_dc (by rw [k.sc]; exact hk) (by rw [k.sc]; exact hy) hl ha) (i1 X k) (by rw [k.N, k.sc]; exact ok) (fun s H C cl fp => g1 _ (inB k s H C cl fp)) (fun s H C cl fp => t1 _ (inB k s H C cl fp)) (fun s H C cl fp => k1 _ (inB k s H C cl fp)) (fun s H C cl fp => v1 _ (inB k s H C cl fp)) (hs _)
    rw [k.K] at q
    exact q
  · unfold mAsgF at hm
    obtain ⟨r, q1, hm⟩ := Option.bind_eq_some_iff.mp hm
    split at hm
    · rename_i hi
      cases hm
      exact dnP_sf hnd hix g2 t2 k2 v2 g env σ I H _ r.1 r.2 R q1 fun a o I1 H1 R1 s1 n ro => k _ I1 H1 (R1.setOwn (by rw [← R1.len]; exact hi) n ro) s1
    · cases hm
end
end Q
namespace Q
open PySem L2
/-! ## for k in d: the dict is locked while it is walked -/
section
variable {K : PySem.W.Frag} {cl : String → Option Addr} {I : Hp} {a : Addr} {od : Obj} {kvs : List (Key × V)}
theorem sqT_unl {b : Addr} {vs : List V} (ha : I a = some (.frz od (.dK kvs))) (h : SqT K I b vs) : SqT K (upd I a (.dK kvs)) b vs := by
  have ne : ∀ u, I b = some u → (∀ od kvs, u ≠ .frz od (.dK kvs)) → upd I a (.dK kvs) b = I b := fun u e n => by
    by_cases z : b = a
    · subst z; rw [ha] at e; cases e; exact absurd rfl (n _ _)
    · exact upd_ne z
  rcases h with (h | ⟨o, h⟩) | h
  · exact .inl (.inl (by rw [ne _ h (fun _ _ z => nomatch z)]; exact h))
  · exact .inl (.inr ⟨o, by rw [ne _ h (fun _ _ z => nomatch z)]; exact h⟩)
  · exact .inr h
theorem sqL_unl {b : Addr} {vs : List V} (ha : I a = some (.frz od (.dK kvs))) (h : SqL K I b vs) : SqL K (upd I a (.dK kvs)) b vs := by
  have ne : ∀ u, I b = some u → (∀ od kvs, u ≠ .frz od (.dK kvs)) → upd I a (.dK kvs) b = I b := fun u e n => by
    by_cases z : b = a
    · subst z; rw [ha] at e; cases e; exact absurd rfl (n _ _)
    · exact upd_ne z
  rcases h with (h | ⟨o, h⟩) | h
  · exact .inl (.inl (by rw [ne _ h (fun _ _ z => nomatch z)]; exact h))
  · exact .inl (.inr ⟨o, by rw [ne _ h (fun _ _ z => nomatch z)]; exact h⟩)
  · exact .inr h
theorem KeysAt.unl (ha : I a = some (.frz od (.dK kvs))) : ∀ {ks : List (List Int)} {bs : List Addr}, KeysAt K I ks bs → KeysAt K (upd I a (.dK kvs)) ks bs
  | _, _, .nil => .nil
  | _, _, .cons ⟨vs, h, e⟩ t => .cons ⟨vs, sqT_unl ha h, e⟩ (KeysAt.unl ha t)
theorem ObjRep.nofrz {d : D} {od : Obj} {u : HO} (h : ObjRep K cl I d (.frz od u)) : False := by cases h
mutual
theorem Rep.unl (ha : I a = some (.frz od (.dK kvs))) : ∀ {d : D} {v : V}, Rep K cl I d v → Rep K cl (upd I a (.dK kvs)) d v
  | _, _, .non => .non
  | _, _, .bl => .bl
  | _, _, .int => .int
  | _, _, .str => .str
  | _, _, .typ => .typ
  | _, _, .scr h r => .scr (sqL_unl ha h) (Reps.unl ha r)
  | _, _, .tup h r => .tup (sqT_unl ha h) (Reps.unl ha r)
  | _, _, .obj (a := b) h r => by
    have z : b ≠ a := fun z => by rw [z, ha] at h; cases h; exact r.nofrz
    exact .obj (by rw [upd_ne z]; exact h) (ObjRep.unl ha r)
  | _, _, .fz (a := b) h r => by
    by_cases z : b = a
    · have h' := h
      rw [z, ha] at h'
      cases h'
      rw [z]
      exact .obj upd_same (ObjRep.unl ha r)
    · exact .fz (by rw [upd_ne z]; exact h) (ObjRep.unl ha r)
theorem Reps.unl (ha : I a = some (.frz od (.dK kvs))) : ∀ {ds : List D} {vs : List V}, Reps K cl I ds vs → Reps K cl (upd I a (.dK kvs)) ds vs
  | _, _, .nil => .nil
  | _, _, .cons r t => .cons (Rep.unl ha r) (Reps.unl ha t)
theorem ObjRep.unl (ha : I a = some (.frz od (.dK kvs))) : ∀ {d : D} {o : HO}, ObjRep K cl I d o → ObjRep K cl (upd I a (.dK kvs)) d o
  | _, _, .lst r => .lst (Reps.unl ha r)
  | _, _, .dic r e => .dic (Reps.unl ha r) e
  | _, _, .obj c r e => .obj c (Reps.unl ha r) e
  | _, _, .dcn h r v e n => .dcn (h.unl ha) (Reps.unl ha r) v e n
end
variable {g : G} {env : En} {σ : L2.St} {H : Hp}
theorem SR.unlock (R : SR K cl g env σ I H) (ha : I a = some (.frz od (.dK kvs))) (h0 : g.H0 a = none) (hi0 : g.I0 a = none) : SR K cl g env σ (upd I a (.dK kvs)) (upd H a (.dK kvs)) := by
  have hI : ∀ b, I b = none → b ≠ a := fun b e z => by subst z; rw [ha] at e; cases e
  have hH : H a = some (.frz od (.dK kvs)) := R.sub a _ ha
  have top : ∀ (b : Addr) (o : HO) (d : D), H b = some o → ObjRep K cl I d o → b ≠ a := fun b o d e r z => by subst z; rw [hH] at e; cases e; exact r.nofrz
  refine ⟨fun b u e => ?_, fun b u e => ?_, fun b o e1 e2 e3 => ?_, fun b o e1 e2 => ?_, fun b hb => ?_, R.len, fun i s e => ?_, R.dis, fun b o hb => ?_, R.ex0, fun b ht => ?_⟩
  · by_cases z : b = a
    · subst z; rw [upd_same] at e ⊢; exact e
    · rw [upd_ne z] at e ⊢; exact R.sub b u e
  · have z : b ≠ a := fun z => by subst z; rw [hi0] at e; cases e
    rw [upd_ne z]; exact R.i0 b u e
  · have z : b ≠ a := fun z => by subst z; rw [h0] at e1; cases e1
    rw [upd_ne z]; exact R.h0 b o e1 e2 e3
  · have z : b ≠ a := fun z => by subst z; rw [h0] at e1; cases e1
    rw [upd_ne z]; exact R.hi b o e1 e2
  · obtain ⟨⟨o, h1⟩, h2, h3⟩ := R.oh b hb
    have z := hI b h2
    exact ⟨⟨o, by rw [upd_ne z]; exact h1⟩, by rw [upd_ne z]; exact h2, h3⟩
  · obtain ⟨x, hx, q⟩ := R.at_ i s e
    refine ⟨x, hx, ?_⟩
    cases s with
    | un => exact True.intro
    | imm d => obtain ⟨v, rfl, r⟩ := q; exact ⟨v, rfl, r.unl ha⟩
    | bor d => obtain ⟨b, rfl, o, h1, r⟩ := q; exact ⟨b, rfl, o, by rw [upd_ne (top b o d h1 r)]; exact h1, r.unl ha⟩
    | own d => obtain ⟨b, o, rfl, h1, r, h2, h3⟩ := q; exact ⟨b, o, rfl, by rw [upd_ne (hI b h2)]; exact h1, r.unl ha, by rw [upd_ne (hI b h2)]; exact h2, h3⟩
    | lck d => obtain ⟨b, o, rfl, h1, r, h2, h3⟩ := q; exact ⟨b, o, rfl, by rw [upd_ne (hI b h2)]; exact h1, r.unl ha, by rw [upd_ne (hI b h2)]; exact h2, h3⟩
    | io k d => obtain ⟨b, o, rfl, h0, h1, r⟩ := q; exact ⟨b, o, rfl, h0, by rw [upd_ne (top b o d h1 r)]; exact h1, r.unl ha⟩
  · obtain ⟨h1, h2, h3⟩ := R.ex b o hb
    exact ⟨by rw [upd_ne (hI b h2)]; exact h1, by rw [upd_ne (hI b h2)]; exact h2, h3⟩
  · obtain ⟨t1, ⟨ps, t2, t3⟩, v, t4⟩ := R.tb b ht
    exact ⟨by rw [upd_ne (hI b t1)]; exact t1, ⟨ps, by rw [upd_ne (hI b t1)]; exact t2, t3⟩, v, t4⟩
theorem SR.lockOwn (R : SR K cl g env σ I H) {i : Nat} {ks : List Key} {xs : List D} (hs : env[i]? = some (.own (.dic ks xs))) :
    ∃ a vs, σ[i]? = some (some (.ref a)) ∧ H a = some (.dK (ks.zip vs)) ∧ Reps K cl I xs vs ∧ ks.length = xs.length ∧ I a = none ∧ g.H0 a = none ∧ g.I0 a = none ∧ ∀ od, SR K cl g (env.set i (.imm (.dic ks xs))) σ (upd I a (.frz od (.dK (ks.zip vs)))) (upd H a (.frz od (.dK (ks.zip vs)))) ∧ Same I (upd I a (.frz od (.dK (ks.zip vs)))) := by
  obtain ⟨x, hx, q⟩ := R.at_ i _ hs
  obtain ⟨a, o, rfl, h1, r, h2, h3⟩ := q
  obtain ⟨vs, rfl, ra, hl⟩ := r.dic_inv
  have hX : ∀ u, (a, u) ∉ g.X := fun u hu => (R.ex a u hu).2.2 i _ hs rfl hx
  obtain ⟨hi, he⟩ := List.getElem?_eq_some_iff.mp hx
  have hself : σ.set i (some (.ref a)) = σ := by rw [← he]; exact List.set_getElem_self hi
  have hi0 : g.I0 a = none := by
    cases e : g.I0 a with
    | none => rfl
    | some u => have := R.i0 a u e; rw [h2] at this; cases this
  refine ⟨a, vs, hx, h1, ra, hl, h2, h3, hi0, fun od => ?_⟩
  have R1 := R.setUn hi (x := some (.ref a))
  rw [hself] at R1
  have R2 := R1.put (p := a) (o := .dK (ks.zip vs)) ⟨h1, h2, h3, fun j s hj ht e => by
    by_cases hji : i = j
    · subst hji
      rw [List.getElem?_set_self (by rw [R.len]; exact hi)] at hj
      cases hj; cases ht
    · rw [List.getElem?_set_ne hji] at hj
      exact R.dis i j _ s a hji hs hj rfl ht hx e, hX⟩
  obtain ⟨R3, n3⟩ := (R2.exSet (o' := .frz od (.dK (ks.zip vs))) hX).take hX
  obtain ⟨R4, s4⟩ := R3.freeze n3
  have R5 := R4.setImm (i := i) (d := .dic ks xs) (v := .ref a) hi (.fz upd_same (.dic (ra.mono s4) hl))
  rw [hself, List.set_set] at R5
  exact ⟨R5, s4⟩
end
section
variable {Z : Zc}
def kD : Key → D
  | .inl i => .int i
  | .inr s => .str s
theorem kD_rep {K : PySem.W.Frag} {cl : String → Option Addr} {I : Hp} (k : Key) : Rep K cl I (kD k) (kV k) := by
  cases k with
  | inl i => exact .int
  | inr s => exact .str
def mForK (w : Nat) (gf : D → En → Option En) (body : MS) : MS := fun env => match env[w]? with
  | some (.own (.dic ks xs)) => mFor gf body (ks.map kD) (env.set w (.imm (.dic ks xs)))
  | _ => none
theorem sv_forK {w : Nat} {yw : Str} {pw : Pos} {tg : Expr} {b : List Stmt} {ix : List Nat} {gf : D → En → Option En} {mb : MS} {pos : Pos} (hNw : Z.N[w]? = some yw) (hvw : Vis Z.sc yw) (hg : GV Z tg ix gf) (hb : BV Z b mb)
    (hdw : (yw == ("__debug__" : Str)) = false := by decide) (hcw : (yw == ("__classdict__" : Str)) = false := by decide) (hs : ∀ env x, foldedSetIterable (.Name yw pw) env x = pure x := by intro _ _; rfl) : SV Z (.For tg (.Name yw pw) b [] pos) (mForK w gf mb) := by
  obtain ⟨gt, g1, g2⟩ := hg
  obtain ⟨tb, b1, b2⟩ := hb
  refine ⟨tLock (tFor (iKeys (tVar w)) gt tb), fun X k => ps_lock (ps_for k.own k.calm (pi_keys (pe_var (pos := pw) (by rw [k.N]; exact hNw) (visOf k hvw) hdw hcw)) (g1 X k) (b1 X k) (hs _)), fun g env σ I H D fl R hm k => ?_⟩
  unfold mForK at hm
  split at hm
  · rename_i ks xs hs
    obtain ⟨a, vs, hxa, hHa, rws, hl, hIa, h0a, hi0, hlk⟩ := R.lockOwn hs
    have hlen : (ks.zip vs).length = ks.length := by rw [List.length_zip, ← rws.length, ← hl, Nat.min_self]
    refine ⟨a, .dK (ks.zip vs), hHa, True.intro, fun od => ?_⟩
    obtain ⟨R1, s1⟩ := hlk od
    obtain ⟨I1, hI1⟩ : ∃ I1, I1 = upd I a (.frz od (.dK (ks.zip vs))) := ⟨_, rfl⟩
    have hI1a : I1 a = some (.frz od (.dK (ks.zip vs))) := by rw [hI1]; exact upd_same
    rw [← hI1] at R1 s1
    have back : ∀ (e : En) (σ5 : L2.St) (I5 H5 : Hp), SR Z.K Z.cl g e σ5 I5 H5 → Same I1 I5 → H5 a = some (.frz od (.dK (ks.zip vs))) ∧ I5 a = some (.frz od (.dK (ks.zip vs))) ∧ SR Z.K Z.cl g e σ5 (upd I5 a (.dK (ks.zip vs))) (upd H5 a (.dK (ks.zip vs))) ∧ Same I (upd I5 a (.dK (ks.zip vs))) := fun e σ5 I5 H5 R5 s5 => by
      have e5 := s5 a _ hI1a
      refine ⟨R5.sub a _ e5, e5, R5.unlock e5 h0a hi0, fun b u hb => ?_⟩
      have z : b ≠ a := fun z => by subst z; rw [hIa] at hb; cases hb
      rw [upd_ne z]
      exact s5 b u (s1 b u hb)
    refine ⟨_, hxa, a, od, rfl, .inl ⟨ks.zip vs, upd_same, ?_⟩⟩
    refine for_it (walk_keys (d := a) (o := od) (kvs := ks.zip vs)) (fun i σ' H' => ∃ env' I', SR Z.K Z.cl g env' σ' I' H' ∧ Same I1 I' ∧ mFor gf mb ((ks.map kD).drop i) env' = some fl) ⟨_, I1, R1, Same.refl _, hm⟩ (fun i σ' H' _ ⟨env', I', R', s', _⟩ => (back _ _ _ _ R' s').1) ?_ ?_
    · rintro i x σ2 H2 H3 hlt ⟨env2, I2, R2, s2, hm2⟩ ⟨rfl, kk, v, hkv, rfl⟩
      rw [hlen] at hlt
      have hkk : ks[i]? = some kk := by
        rw [List.getElem?_zip_eq_some] at hkv
        exact hkv.1
      have hd : (ks.map kD)[i]? = some (kD kk) := by rw [List.getElem?_map, hkk]; rfl
      obtain ⟨hlt2, hde⟩ := List.getElem?_eq_some_iff.mp hd
      have hdrop : (ks.map kD).drop i = kD kk :: (ks.map kD).drop (i + 1) := by rw [List.drop_eq_getElem_cons hlt2, hde]
      rw [hdrop] at hm2
      unfold mFor at hm2
      cases e2 : gf (kD kk) env2 with
      | none => rw [e2] at hm2; cases hm2
      | some en2 =>
        rw [e2] at hm2; simp only [Option.bind_some] at hm2
        refine g2 g env2 σ2 I2 H3 (kD kk) (kV kk) _ en2 R2 (kD_rep kk) e2 fun σ4 R4 _ => ?_
        cases e3 : mb en2 with
        | none => rw [e3] at hm2; cases hm2
        | some f =>
          rw [e3] at hm2; simp only [Option.bind_some] at hm2
          refine b2 g en2 σ4 I2 H3 _ f R4 e3 ?_
          cases f with
          | nx e => exact fun σ5 I5 H5 R5 s5 => ⟨e, I5, R5, s2.trans s5, hm2⟩
          | ct e => exact fun σ5 I5 H5 R5 s5 => ⟨e, I5, R5, s2.trans s5, hm2⟩
          | bk e =>
            cases hm2
            exact fun σ5 I5 H5 R5 s5 => by
              obtain ⟨q1, q2, q3, q4⟩ := back _ _ _ _ R5 (s2.trans s5)
              exact ⟨q1, k σ5 _ _ q3 q4⟩
          | ret md r e =>
            cases hm2
            exact fun σ5 I5 H5 v R5 s5 hr => by
              obtain ⟨q1, q2, q3, q4⟩ := back _ _ _ _ R5 (s2.trans s5)
              refine ⟨q1, k σ5 _ _ v q3 q4 ?_⟩
              cases md with
              | imm => exact Rep.unl q2 hr
              | new =>
                obtain ⟨p, o, rfl, n, ro⟩ := hr
                have z : p ≠ a := fun z => by have n' := n.i; rw [z, q2] at n'; cases n'
                exact ⟨p, o, rfl, ⟨by rw [upd_ne z]; exact n.at_, by rw [upd_ne z]; exact n.i, n.h0, n.no, n.x⟩, ro.unl q2⟩
    · rintro σ2 H2 ⟨env2, I2, R2, s2, hm2⟩
      rw [hlen, ← List.length_map (f := kD), List.drop_length] at hm2
      cases hm2
      obtain ⟨q1, q2, q3, q4⟩ := back _ _ _ _ R2 s2
      exact ⟨q1, k σ2 _ _ q3 q4⟩
  · cases hm
end
end Q
namespace Q
open PySem L2
section
variable {Z : Zc}
/-! ## dict(list of pairs) -/
def pairD : D → Option (Key × D)
  | .tup [k, v] => k.key?.map fun q => (q, v)
  | _ => none
def pairsD : List D → Option (List (Key × D))
  | [] => some []
  | x :: xs => (pairD x).bind fun p => (pairsD xs).map fun ps => p :: ps
def mergD : List (Key × D) → List Key → List D → List Key × List D
  | [], ks, xs => (ks, xs)
  | p :: ps, ks, xs => mergD ps (putKK p.1 ks) (putKD p.1 p.2 ks xs)
def dDictP : List D → Option D
  | [.lst xs] => (pairsD xs).map fun ps => .dic (mergD ps [] []).1 (mergD ps [] []).2
  | _ => none
def rDictP (K : PySem.W.Frag) : List V → Hp → VK → Prop := fun xs H Q => ∃ (a : Addr) (ps : List Addr) (kvs : List (Key × V)), xs = [.ref a] ∧ SqL K H a (ps.map V.ref) ∧ Paired (fun p kv => SqT K H p [kV kv.1, kv.2]) ps kvs ∧
  ∀ p, H p = none → Q (.ref p) (upd H p (.dK (mergeK [] kvs)))
theorem cr_dictP {X : Cx} (h : InF Z X) : CallR X (.type "dict") (rDictP Z.K) := by rw [← h.K]; exact call_dictP h.calm
theorem pairs_rep {I H : Hp} (s : Same I H) : ∀ {xs : List D} {vs : List V} {ps : List (Key × D)}, pairsD xs = some ps → Reps Z.K Z.cl I xs vs →
    ∃ (as : List Addr) (kvs : List (Key × V)), vs = as.map V.ref ∧ Paired (fun p kv => SqT Z.K H p [kV kv.1, kv.2]) as kvs ∧ kvs.map (·.1) = ps.map (·.1) ∧ Reps Z.K Z.cl I (ps.map (·.2)) (kvs.map (·.2))
  | [], [], ps, h, .nil => by cases h; exact ⟨[], [], rfl, .nil, rfl, .nil⟩
  | x :: xs, v :: vs, ps, h, .cons r rs => by
    unfold pairsD at h
    obtain ⟨p, h1, h⟩ := Option.bind_eq_some_iff.mp h
    obtain ⟨qs, h2, rfl⟩ := Option.map_eq_some_iff.mp h
    obtain ⟨as, kvs, rfl, e1, e2, e3⟩ := pairs_rep s h2 rs
    unfold pairD at h1
    split at h1
    · rename_i k d
      obtain ⟨q, hk, rfl⟩ := Option.map_eq_some_iff.mp h1
      obtain ⟨a, us, rfl, ht, ru⟩ := r.tup_inv
      cases ru with
      | cons rk ru =>
        cases ru with
        | cons rd ru =>
          cases ru
          have hkv := key_rep (H := H) hk (.inl rk)
          subst hkv
          rename_i u
          exact ⟨a :: as, (q, u) :: kvs, rfl, .cons (SqT.mono s ht) e1, by simp [e2], .cons rd e3⟩
    · cases h1
theorem merg_rep {I : Hp} : ∀ {ps : List (Key × D)} {kvs : List (Key × V)} {ks : List Key} {xs : List D} {vs : List V}, kvs.map (·.1) = ps.map (·.1) → Reps Z.K Z.cl I (ps.map (·.2)) (kvs.map (·.2)) → Reps Z.K Z.cl I xs vs → ks.length = xs.length →
    ∃ ws, mergeK (ks.zip vs) kvs = (mergD ps ks xs).1.zip ws ∧ Reps Z.K Z.cl I (mergD ps ks xs).2 ws ∧ (mergD ps ks xs).1.length = (mergD ps ks xs).2.length
  | [], [], ks, xs, vs, _, _, r, h => ⟨vs, rfl, r, h⟩
  | [], _ :: _, _, _, _, e, _, _, _ => by cases e
  | _ :: _, [], _, _, _, e, _, _, _ => by cases e
  | p :: ps, kv :: kvs, ks, xs, vs, e, rr, r, h => by
    simp only [List.map_cons, List.cons.injEq] at e rr
    obtain ⟨e1, e2⟩ := e
    cases rr with
    | cons r1 r2 =>
      obtain ⟨ws, h1, h2, h3⟩ := putK_rep (k := p.1) r1 r h
      obtain ⟨us, g1, g2, g3⟩ := merg_rep (ps := ps) (kvs := kvs) e2 r2 h2 h3
      refine ⟨us, ?_, g2, g3⟩
      show mergeK (putK (ks.zip vs) kv.1 kv.2) kvs = _
      rw [e1, h1]; exact g1
theorem ok_dictP : RuleCN Z (rDictP Z.K) dDictP := by
  intro I H xs z vs Q s rs h k
  unfold dDictP at h
  split at h
  · rename_i ys
    obtain ⟨ps, hp, rfl⟩ := Option.map_eq_some_iff.mp h
    obtain ⟨v, rfl, r⟩ := rs.one
    obtain ⟨a, us, rfl, h1, h2⟩ := r.lst s
    obtain ⟨as, kvs, rfl, e1, e2, e3⟩ := pairs_rep s hp h2
    obtain ⟨ws, g1, g2, g3⟩ := merg_rep (ks := []) (xs := []) (vs := []) e2 e3 .nil rfl
    refine ⟨a, as, kvs, rfl, SqL.of h1, e1, fun p hp => ?_⟩
    rw [show ([] : List (Key × V)) = ([] : List Key).zip ([] : List V) from rfl, g1]
    exact k p _ hp (.dic g2 g3)
  · cases h
/-! ## a name that a comprehension reads, given a comprehension -/
theorem swap_cell {v : Expr} {nm : Str} {pn : Pos} {l : Nat} {env : Env} (hy : env.scope.names.lookup nm = some .cell) : swapsWithSole [.Name nm pn] v l env = pure false := by
  have e1 : env.kindOf nm = some .cell := hy
  show swapsWith v (some (.Name nm pn)) l env = pure false
  unfold swapsWith
  cases v <;> first
    | rfl
    | (simp only [e1]
       show pure (env.blockKind == ScopeKind.function && (some NameKind.cell == some NameKind.local) && _ && _) = _
       have e2 : (some NameKind.cell == some NameKind.local) = false := by decide
       rw [e2, Bool.and_false, Bool.false_and, Bool.false_and])
theorem sv_asgFC {i : Nat} {x : Str} {e : Expr} {m : ME} {p pos : Pos} (hN : Z.N[i]? = some x) (hv : LocZ Z x) (hy : Z.sc.names.lookup x = some .cell) (h : EF Z e m) (hw : ∀ env, swappedStores [.Name x p] e env = pure none := by intro _; rfl)
    (h1 : ∀ env, (assignEach [.Name x p] env).map (·.2) = [assign (.Name x p) env] := by intro _; rfl) : SV Z (.Assign [.Name x p] e pos) (mAsgF i m) := by
  obtain ⟨t, q1, q2⟩ := h
  refine ⟨_, fun X k => ps_asg (q1 X k) (pg_name k.nd (by rw [k.N]; exact hN) (locOf k hv).1 (locOf k hv).2) (swap_cell (by rw [k.sc]; exact hy)) (hw _) (h1 _), fun g env σ I H D fl R hm k => ?_⟩
  unfold mAsgF at hm
  obtain ⟨r, e1, hm⟩ := Option.bind_eq_some_iff.mp hm
  split at hm
  · rename_i hi
    cases hm
    exact q2 g env σ I H _ r.1 r.2 R e1 fun a o I1 H1 R1 s1 n ro => k _ I1 H1 (R1.setOwn (by rw [← R1.len]; exact hi) n ro) s1
  · cases hm
end
end Q
namespace Q
open PySem L2
section
variable {Z : Zc}
/-! ## [elt for .. for ..] -/
theorem walk_go {J : It} {n : Nat} {Ok : Hp → Prop} {Y : Nat → Hp → V → Hp → Prop} (w : Walk J n Ok Y) {H0 : Hp} {Qd : Hp → Prop} {B : (Hp → Prop) → V → Hp → Prop} (Pv : Nat → Hp → Prop) (h0 : Pv 0 H0) (hG : ∀ i H, i ≤ n → Pv i H → Ok H)
    (hs : ∀ i x H H', i < n → Pv i H → Y i H x H' → B (Pv (i + 1)) x H') (hd : ∀ H, Pv n H → Qd H) :
    ∃ W : Nat → Nat → Hp → Prop, (∃ m, W 0 m H0) ∧ ∀ i m H, W i m H → (J.stop i H ∧ Qd H) ∨ (J.go i H ∧ ∃ Nx : Hp → Prop, (∀ H', Nx H' → ∃ m', m' < m ∧ W (i + 1) m' H') ∧ ∀ x H', J.yld i H x H' → B Nx x H') := by
  refine ⟨fun i m H => m + i = n ∧ Pv i H, ⟨n, rfl, h0⟩, ?_⟩
  rintro i m H ⟨hm, p⟩
  have hi : i ≤ n := by omega
  by_cases hlt : i < n
  · exact .inr ⟨w.goes i H hlt (hG i H hi p), Pv (i + 1), fun H' p' => ⟨m - 1, by omega, by omega, p'⟩, fun x H' y => hs i x H H' hlt p (w.yields i H x H' hlt (hG i H hi p) y)⟩
  · obtain rfl : i = n := by omega
    exact .inl ⟨w.stops H (hG i H hi p), hd H p⟩
theorem wipe_wipe {σ τ : St} {us vs : List Nat} (h : wipe τ us = wipe σ us) (hu : ∀ u ∈ us, u ∈ vs) : wipe τ vs = wipe σ vs := by
  have ww : ∀ (us : List Nat) (τ : St), (∀ u ∈ us, u ∈ vs) → wipe (wipe τ us) vs = wipe τ vs := by
    intro us
    induction us with
    | nil => intro τ _; rfl
    | cons u us ih =>
      intro τ hu
      show wipe ((wipe τ us).set u none) vs = wipe τ vs
      rw [wipe_set (hu u List.mem_cons_self), ih τ fun v hv => hu v (List.mem_cons_of_mem _ hv)]
  rw [← ww us τ hu, h, ww us σ hu]
theorem wipe_self (σ : St) (vs : List Nat) : wipe (wipe σ vs) vs = wipe σ vs := by
  have ww : ∀ (us : List Nat) (τ : St), (∀ u ∈ us, u ∈ vs) → wipe (wipe τ us) vs = wipe τ vs := by
    intro us
    induction us with
    | nil => intro τ _; rfl
    | cons u us ih =>
      intro τ hu
      show wipe ((wipe τ us).set u none) vs = wipe τ vs
      rw [wipe_set (hu u List.mem_cons_self), ih τ fun v hv => hu v (List.mem_cons_of_mem _ hv)]
  exact ww vs σ fun _ h => h
def lc2Loop (gf : D → En → Option En) (mt : MT) (mi1 : MI) (gf1 : D → En → Option En) (mt1 : MT) (me : ME) (vs vs1 : List Nat) : List D → List D → En → Option (List D × En)
  | [], acc, env => some (acc, env)
  | d :: ds, acc, env => (gf d (wipeE env vs)).bind fun e1 => (mt e1).bind fun p =>
    if p.1 then (mi1 p.2).bind fun q => (lcLoop gf1 mt1 me vs1 q.1 acc q.2).bind fun r => lc2Loop gf mt mi1 gf1 mt1 me vs vs1 ds r.1 (wipeE r.2 vs1)
    else lc2Loop gf mt mi1 gf1 mt1 me vs vs1 ds acc p.2
def mLc2 (vs vs1 : List Nat) (mi : MI) (gf : D → En → Option En) (mt : MT) (mi1 : MI) (gf1 : D → En → Option En) (mt1 : MT) (me : ME) : ME := fun env => (mi env).bind fun p => if calmAt p.2 vs = true then (lc2Loop gf mt mi1 gf1 mt1 me vs vs1 p.1 [] p.2).map fun q => (.lst q.1, backE p.2 (wipeE q.2 vs) vs) else none
theorem lc2_sf {Z1 : Zc} {wi wi1 : TI} {gt gt1 : TG} {tt tt1 : TT} {te : TE} {vs vs1 : List Nat} {mi mi1 : MI} {gf gf1 : D → En → Option En} {mt mt1 : MT} {me : ME} {ix ix1 : List Nat} (hZ : Z1.K = Z.K) (hcl : Z1.cl = Z.cl) (hnd : vs.Nodup) (hix : ∀ i ∈ ix, i ∈ vs) (hix1 : ∀ i ∈ ix1, i ∈ vs1) (hv : ∀ i ∈ vs1, i ∈ vs) (i2 : SI Z wi mi) (i21 : SI Z1 wi1 mi1)
    (g2 : ∀ (g : G) (env : En) (σ : St) (I H : Hp) (d : D) (v : V) (Q : St → Hp → Prop) (env' : En), SR Z.K Z.cl g env σ I H → Rep Z.K Z.cl I d v → gf d env = some env' →
      (∀ σ', SR Z.K Z.cl g env' σ' I H → (∀ vs, (∀ i ∈ ix, i ∈ vs) → wipe σ' vs = wipe σ vs) → Q σ' H) → gt v σ H Q)
    (g21 : ∀ (g : G) (env : En) (σ : St) (I H : Hp) (d : D) (v : V) (Q : St → Hp → Prop) (env' : En), SR Z.K Z.cl g env σ I H → Rep Z.K Z.cl I d v → gf1 d env = some env' →
      (∀ σ', SR Z.K Z.cl g env' σ' I H → (∀ vs, (∀ i ∈ ix1, i ∈ vs) → wipe σ' vs = wipe σ vs) → Q σ' H) → gt1 v σ H Q)
    (t2 : ST Z tt mt) (t21 : ST Z tt1 mt1) (e2 : SE Z te me) : SF Z (tLc2 wi gt tt wi1 gt1 tt1 te vs vs1) (mLc2 vs vs1 mi gf mt mi1 gf1 mt1 me) := by
  intro g env σ I H Q d env' R hm k
  unfold mLc2 at hm
  obtain ⟨⟨ds, en⟩, e1, hm⟩ := Option.bind_eq_some_iff.mp hm
  dsimp only at hm
  split at hm
  rotate_left
  · cases hm
  rename_i hcalm
  obtain ⟨⟨fin, enf⟩, e3, hm⟩ := Option.map_eq_some_iff.mp hm
  cases hm
  refine i2 g env σ I H _ ds en R e1 fun J I1 H1 R1 s1 wd L hL => ?_
  obtain ⟨Gd, Y, hw, hgd, hy⟩ := wd
  have hX : ∀ u, (L, u) ∉ g.X := (R1.new (o := .lst []) hL).x
  refine walk_go (H0 := upd H1 L (.lst [])) (Qd := fun H => Q (.ref L) H) (B := fun Nx x H' => gt x (wipe σ vs) H' fun σ2 H2 => wipe σ2 vs = wipe σ vs ∧ tt σ2 H2 fun b H3 =>
      if b = true then wi1 σ2 H3 fun J1 H4 => ∃ W1 : Nat → Nat → Hp → Prop, (∃ m, W1 0 m H4) ∧ ∀ j k H, W1 j k H →
        (J1.stop j H ∧ Nx H) ∨ (J1.go j H ∧ ∃ Nx1 : Hp → Prop, (∀ H', Nx1 H' → ∃ k', k' < k ∧ W1 (j + 1) k' H') ∧ ∀ x H', J1.yld j H x H' → gt1 x (wipe σ2 vs1) H' fun σ3 H5 => wipe σ3 vs1 = wipe σ2 vs1 ∧ tt1 σ3 H5 fun b H6 =>
          if b = true then te σ3 H6 fun y H7 => ∃ acc, H7 L = some (.lst acc) ∧ acc.length < sizeLine ∧ Nx1 (upd H7 L (.lst (acc ++ [y]))) else Nx1 H6)
      else Nx H3) hw (fun i H' => ∃ env' I' acc av, SR Z.K Z.cl (g.beside L (.lst av)) (wipeE env' vs) (wipe σ vs) I' H' ∧ Same I1 I' ∧ Reps Z.K Z.cl I' acc av ∧ lc2Loop gf mt mi1 gf1 mt1 me vs vs1 (ds.drop i) acc env' = some (fin, enf))
    ⟨en, I1, [], [], ((R1.alloc hL _).put (R1.new hL)).wipe vs, Same.refl _, .nil, e3⟩ (fun i H' _ ⟨env', I', acc, av, R', s', _⟩ => hgd I' H' s' R'.sub) ?_ ?_
  · rintro i x H2 H3 hlt ⟨env2, I2, acc, av, R2, s2, ra, hm2⟩ hyld
    have hd : ds[i]? = some ds[i] := List.getElem?_eq_getElem hlt
    have hdrop : ds.drop i = ds[i] :: ds.drop (i + 1) := List.drop_eq_getElem_cons hlt
    rw [hdrop] at hm2
    obtain ⟨I3, R3, s3, r3⟩ := hy i ds[i] _ _ _ I2 H2 x H3 hd s2 R2 hyld
    unfold lc2Loop at hm2
    obtain ⟨en3, q1, hm2⟩ := Option.bind_eq_some_iff.mp hm2
    refine g2 _ _ _ I3 H3 ds[i] x _ en3 R3 r3 q1 fun σ4 R4 w4 => ?_
    have hwp : wipe σ4 vs = wipe σ vs := by rw [w4 vs hix, wipe_self]
    refine ⟨hwp, ?_⟩
    obtain ⟨⟨b, en4⟩, q2, hm2⟩ := Option.bind_eq_some_iff.mp hm2
    refine t2 _ _ _ I3 H3 _ b en4 R4 q2 fun I5 H5 R5 s5 => ?_
    cases b with
    | false =>
      simp only [Bool.false_eq_true, if_false] at hm2 ⊢
      have R6 := R5.wipe vs
      rw [hwp] at R6
      exact ⟨en4, I5, acc, av, R6, (s2.trans s3).trans s5, ra.mono (s3.trans s5), hm2⟩
    | true =>
      simp only [if_true] at hm2 ⊢
      obtain ⟨⟨ds1, en5⟩, q3, hm2⟩ := Option.bind_eq_some_iff.mp hm2
      obtain ⟨⟨acc1, en6⟩, q4, hm2⟩ := Option.bind_eq_some_iff.mp hm2
      dsimp only at q4 hm2
      have R5' : SR Z1.K Z1.cl (g.beside L (.lst av)) en4 σ4 I5 H5 := by rw [hZ, hcl]; exact R5
      refine i21 _ _ _ I5 H5 _ ds1 en5 R5' q3 fun J1 I6 H6 R6' s6 wd1 => ?_
      obtain ⟨Gd1, Y1, hw1, hgd1, hy1⟩ := wd1
      have R6 : SR Z.K Z.cl (g.beside L (.lst av)) en5 σ4 I6 H6 := by rw [← hZ, ← hcl]; exact R6'
      refine walk_go (H0 := H6) (Qd := fun H => ∃ env' I' acc av, SR Z.K Z.cl (g.beside L (.lst av)) (wipeE env' vs) (wipe σ vs) I' H ∧ Same I1 I' ∧ Reps Z.K Z.cl I' acc av ∧ lc2Loop gf mt mi1 gf1 mt1 me vs vs1 (ds.drop (i + 1)) acc env' = some (fin, enf))
        (B := fun Nx1 x H' => gt1 x (wipe σ4 vs1) H' fun σ3 H5 => wipe σ3 vs1 = wipe σ4 vs1 ∧ tt1 σ3 H5 fun b H6 =>
          if b = true then te σ3 H6 fun y H7 => ∃ acc, H7 L = some (.lst acc) ∧ acc.length < sizeLine ∧ Nx1 (upd H7 L (.lst (acc ++ [y]))) else Nx1 H6) hw1
        (fun j H' => ∃ env' I' acc' av', SR Z.K Z.cl (g.beside L (.lst av')) (wipeE env' vs1) (wipe σ4 vs1) I' H' ∧ Same I6 I' ∧ Reps Z.K Z.cl I' acc' av' ∧ lcLoop gf1 mt1 me vs1 (ds1.drop j) acc' env' = some (acc1, en6))
        ⟨en5, I6, acc, av, R6.wipe vs1, Same.refl _, ra.mono ((s3.trans s5).trans s6), q4⟩ (fun j H' _ ⟨env', I', acc', av', R', s', _⟩ => hgd1 I' H' s' R'.sub) ?_ ?_
      · rintro j y H7 H8 hlt1 ⟨env7, I7, acc7, av7, R7, s7, ra7, hm7⟩ hyld1
        have hd1 : ds1[j]? = some ds1[j] := List.getElem?_eq_getElem hlt1
        have hdrop1 : ds1.drop j = ds1[j] :: ds1.drop (j + 1) := List.drop_eq_getElem_cons hlt1
        rw [hdrop1] at hm7
        have R7' : SR Z1.K Z1.cl (g.beside L (.lst av7)) (wipeE env7 vs1) (wipe σ4 vs1) I7 H7 := by rw [hZ, hcl]; exact R7
        obtain ⟨I8, R8', s8, r8'⟩ := hy1 j ds1[j] _ _ _ I7 H7 y H8 hd1 s7 R7' hyld1
        have R8 : SR Z.K Z.cl (g.beside L (.lst av7)) (wipeE env7 vs1) (wipe σ4 vs1) I8 H8 := by rw [← hZ, ← hcl]; exact R8'
        have r8 : Rep Z.K Z.cl I8 ds1[j] y := by rw [← hZ, ← hcl]; exact r8'
        unfold lcLoop at hm7
        obtain ⟨en8, q8, hm7⟩ := Option.bind_eq_some_iff.mp hm7
        refine g21 _ _ _ I8 H8 ds1[j] y _ en8 R8 r8 q8 fun σ9 R9 w9 => ?_
        have hwp1 : wipe σ9 vs1 = wipe σ4 vs1 := by rw [w9 vs1 hix1, wipe_self]
        refine ⟨hwp1, ?_⟩
        obtain ⟨⟨b1, en9⟩, q9, hm7⟩ := Option.bind_eq_some_iff.mp hm7
        refine t21 _ _ _ I8 H8 _ b1 en9 R9 q9 fun I10 H10 R10 s10 => ?_
        cases b1 with
        | false =>
          simp only [Bool.false_eq_true, if_false] at hm7 ⊢
          have R11 := R10.wipe vs1
          rw [hwp1] at R11
          exact ⟨en9, I10, acc7, av7, R11, (s7.trans s8).trans s10, ra7.mono (s8.trans s10), hm7⟩
        | true =>
          simp only [if_true] at hm7 ⊢
          obtain ⟨⟨z, en10⟩, q10, hm7⟩ := Option.bind_eq_some_iff.mp hm7
          split at hm7
          · rename_i hlen
            refine e2 _ _ _ I10 H10 _ z en10 R10 q10 fun v I11 H11 R11 s11 rv => ?_
            have ra11 := ra7.mono ((s8.trans s10).trans s11)
            refine ⟨av7, (R11.ex L _ List.mem_cons_self).1, by rw [← ra7.length]; exact hlen, en10, I11, acc7 ++ [z], av7 ++ [v], ?_, ((s7.trans s8).trans s10).trans s11, ra11.append (.cons rv .nil), hm7⟩
            have R12 := (R11.exSet (o' := .lst (av7 ++ [v])) hX).wipe vs1
            rw [hwp1] at R12
            exact R12
          · cases hm7
      · rintro H7 ⟨env7, I7, acc7, av7, R7, s7, ra7, hm7⟩
        rw [List.drop_length] at hm7
        cases hm7
        have R8 := R7.wipe vs
        rw [wipe_wipe (wipe_self σ4 vs1) hv, hwp] at R8
        exact ⟨wipeE en6 vs1, I7, acc1, av7, R8, (((s2.trans s3).trans s5).trans s6).trans s7, ra7, hm2⟩
  · rintro H2 ⟨env2, I2, acc, av, R2, s2, ra, hm2⟩
    rw [List.drop_length] at hm2
    cases hm2
    have R3 := SR.back R1 vs hnd hcalm R2 s2
    obtain ⟨R4, n4⟩ := R3.take hX
    exact k L _ I2 H2 R4 (s1.trans s2) n4 (.lst ra)
theorem ef_lc2 {elt tg iter tg1 iter1 : Expr} {ifs ifs1 : List Expr} {scope : Scope} {own : List (Str × Nat)} {vs1 : List Nat} {pos : Pos} {mi mi1 : MI} {ix ix1 : List Nat} {gf gf1 : D → En → Option En} {mt mt1 : MT} {me : ME} (hi : IV Z tg iter mi) (ok : BlkOk Z.N Z.sc scope own) (hg : GV (ZB Z scope) tg ix gf) (ht : CV (ZB Z scope) ifs mt)
    (hi1 : IV (ZB Z scope) tg1 iter1 mi1) (hg1 : GV (ZB Z scope) tg1 ix1 gf1) (ht1 : CV (ZB Z scope) ifs1 mt1)
    (he : EV (ZB Z scope) elt me) (hnd : (own.map (·.2)).Nodup := by decide) (hix : ∀ i ∈ ix, i ∈ own.map (·.2) := by decide) (hix1 : ∀ i ∈ ix1, i ∈ vs1 := by decide) (hv : ∀ i ∈ vs1, i ∈ own.map (·.2) := by decide) (hs : ∀ env x, foldedSetIterable iter env x = pure x := by intro _ _; rfl) (hs1 : ∀ env x, foldedSetIterable iter1 env x = pure x := by intro _ _; rfl) :
    EF Z (.ListComp elt [⟨tg, iter, ifs, 0⟩, ⟨tg1, iter1, ifs1, 0⟩] scope pos) (mLc2 (own.map (·.2)) vs1 mi gf mt mi1 gf1 mt1 me) := by
  obtain ⟨wi, i1, i2⟩ := hi
  obtain ⟨gt, g1, g2⟩ := hg
  obtain ⟨tt, t1, t2⟩ := ht
  obtain ⟨wi1, i11, i21⟩ := hi1
  obtain ⟨gt1, g11, g21⟩ := hg1
  obtain ⟨tt1, t11, t21⟩ := ht1
  obtain ⟨te, e1, e2⟩ := he
  exact ⟨_, fun X k => pe_lc2 k.calm k.nd (i1 X k) (by rw [k.N, k.sc]; exact ok) hv (fun s H C cl fp => g1 _ (inB k s H C cl fp)) (fun s H C cl fp => t1 _ (inB k s H C cl fp)) (fun s H C cl fp => i11 _ (inB k s H C cl fp)) (fun s H C cl fp => g11 _ (inB k s H C cl fp)) (fun s H C cl fp => t11 _ (inB k s H C cl fp)) (fun s H C cl fp => e1 _ (inB k s H C cl fp)) (hs _) (fun _ _ => hs1 _ _), lc2_sf (Z := Z) (Z1 := ZB Z scope) rfl rfl hnd hix hix1 hv i2 i21 g2 g21 t2 t21 e2⟩
theorem sv_asgLc2 {i : Nat} {y : Str} {py : Pos} {elt tg iter tg1 iter1 : Expr} {ifs ifs1 : List Expr} {scope : Scope} {own : List (Str × Nat)} {vs1 : List Nat} {pos spos : Pos} {mi mi1 : MI} {ix ix1 : List Nat} {gf gf1 : D → En → Option En} {mt mt1 : MT} {me : ME} (hN : Z.N[i]? = some y) (hy : Z.sc.names.lookup y = some .local)
    (hk : Z.sc.kind = .function) (hi : IV Z tg iter mi) (ok : BlkOk Z.N Z.sc scope own) (hg : GV (ZB Z scope) tg ix gf) (ht : CV (ZB Z scope) ifs mt)
    (hi1 : IV (ZB Z scope) tg1 iter1 mi1) (hg1 : GV (ZB Z scope) tg1 ix1 gf1) (ht1 : CV (ZB Z scope) ifs1 mt1) (he : EV (ZB Z scope) elt me) (hl : (py.line == pos.line) = true := by rfl) (ha : (scope.names.any fun (n, k) => n == y && (k == .local || k == .cell)) = false := by decide +kernel)
    (hnd : (own.map (·.2)).Nodup := by decide) (hix : ∀ i ∈ ix, i ∈ own.map (·.2) := by decide) (hix1 : ∀ i ∈ ix1, i ∈ vs1 := by decide) (hv : ∀ i ∈ vs1, i ∈ own.map (·.2) := by decide) (hs : ∀ env x, foldedSetIterable iter env x = pure x := by intro _ _; rfl) (hs1 : ∀ env x, foldedSetIterable iter1 env x = pure x := by intro _ _; rfl) :
    SV Z (.Assign [.Name y py] (.ListComp elt [⟨tg, iter, ifs, 0⟩, ⟨tg1, iter1, ifs1, 0⟩] scope pos) spos) (mAsgF i (mLc2 (own.map (·.2)) vs1 mi gf mt mi1 gf1 mt1 me)) := by
  obtain ⟨wi, i1, i2⟩ := hi
  obtain ⟨gt, g1, g2⟩ := hg
  obtain ⟨tt, t1, t2⟩ := ht
  obtain ⟨wi1, i11, i21⟩ := hi1
  obtain ⟨gt1, g11, g21⟩ := hg1
  obtain ⟨tt1, t11, t21⟩ := ht1
  obtain ⟨te, e1, e2⟩ := he
  refine ⟨_, fun X k => ps_setLc2 k.calm k.nd (by rw [k.N]; exact hN) (by rw [k.sc]; exact hy) (sw_true (by rw [k.sc]; exact hk) (by rw [k.sc]; exact hy) hl ha) (i1 X k) (by rw [k.N, k.sc]; exact ok) hv (fun s H C cl fp => g1 _ (inB k s H C cl fp)) (fun s H C cl fp => t1 _ (inB k s H C cl fp)) (fun s H C cl fp => i11 _ (inB k s H C cl fp)) (fun s H C cl fp => g11 _ (inB k s H C cl fp)) (fun s H C cl fp => t11 _ (inB k s H C cl fp)) (fun s H C cl fp => e1 _ (inB k s H C cl fp)) (hs _) (fun _ _ => hs1 _ _), fun g env σ I H D fl R hm k => ?_⟩
  unfold mAsgF at hm
  obtain ⟨r, q1, hm⟩ := Option.bind_eq_some_iff.mp hm
  split at hm
  · rename_i hi
    cases hm
    exact lc2_sf (Z := Z) (Z1 := ZB Z scope) rfl rfl hnd hix hix1 hv i2 i21 g2 g21 t2 t21 e2 g env σ I H _ r.1 r.2 R q1 fun a o I1 H1 R1 s1 n ro => k _ I1 H1 (R1.setOwn (by rw [← R1.len]; exact hi) n ro) s1
  · cases hm
end
end Q
namespace Q
open PySem PySem.Spec PyProof.Rows L2
/-! ## for p in zip(xs, ys): the pair keeps its name; whether the zip may use its own pair again is left open -/
section
variable {prog : Program} {w : World} {A : Around} {E : Value → Shared → Prop} {s : Shared}
theorem alive_any {a : Addr} {Q : Option Obj → Shared → Prop} (h : Q (s.heap.get? a) s) : wpAny (model prog w) A (loadIfAlive a) Q E s := fun _ _ _ => h
theorem own_dead {z u v T : Addr} {f : Bool} {Q : Bool → Shared → Prop} (hz : IsZipHeld s.heap z u v T f) (hT : s.heap.get? T = none) (h : Q true s) : wpAny (model prog w) A (Builtin.SmallTypes.ownedTupleIsFree (.ref z)) Q E s := by
  unfold Builtin.SmallTypes.ownedTupleIsFree
  refine wpAny_bind (wpAny_field hz rfl (x := rawInt T) rfl ?_)
  show wpAny _ _ (loadIfAlive (Int.toNat (T : Int)) >>= _) _ _ _
  rw [Int.toNat_natCast]
  refine wpAny_bind (alive_any ?_)
  rw [hT]
  exact wpAny_pure h
theorem dead_item {z u v T c d l m : Addr} {f : Bool} {i j : Nat} {xs ys : Array Value} {x y a b : Value} {Q : Value → Shared → Prop} (D : ZipApart z u v c d l m) (hz : IsZipHeld s.heap z u v T f) (hT : s.heap.get? T = none) (hu : IsPair s.heap u (.ref c) (.ref d)) (hv : IsPair s.heap v a b)
    (hc : s.heap.IsListIter c l i) (hd : s.heap.IsListIter d m j) (hl : s.heap.IsList l xs) (hm : s.heap.IsList m ys) (hx : xs[i]? = some x) (hy : ys[j]? = some y)
    (hQ : ∀ h', IsZipHeld h' z u v s.heap.objs.size false → IsPair h' v x y → h'.IsListIter c l (i + 1) → h'.IsListIter d m (j + 1) → IsPair h' s.heap.objs.size x y →
      (∀ e o, e ≠ z → e ≠ v → e ≠ c → e ≠ d → s.heap.get? e = some o → h'.get? e = some o) → Q (.ref s.heap.objs.size) { s with heap := h' }) :
    wpAny (model prog w) A (Builtin.«zip.__next__» ⟨[.ref z], []⟩) (fun r t => ∃ q, r = .done (.ret q) ∧ Q q t) E s := by
  show wpAny _ A (field (.ref z) 2 >>= _) _ E s
  refine wpAny_bind (wpAny_field hz rfl (x := Value.bool false) rfl ?_)
  show wpAny _ A (field (.ref z) 3 >>= _) _ E s
  refine wpAny_bind (wpAny_field hz rfl (x := Value.ref u) rfl (wpAny_bind (wpAny_seqItems hu rfl ?_)))
  show wpAny _ A (Builtin.SmallTypes.ownedTupleIsFree (.ref z) >>= _) _ E s
  refine wpAny_bind (own_dead hz hT ?_)
  simp only [if_true]
  refine wpAny_bind (wpAny_rule (wpAny_bind (wpAny_field hz rfl (x := Value.ref v) rfl (wpAny_bind (wpAny_setField_rec hz (by simp) fun g1 z1 k1 => wpAny_bind ?_)))))
  simp only [List.forIn_cons, List.forIn_nil, List.zipIdx_nil, List.zipIdx_cons]
  refine wpAny_bind (wpAny_bind (wpAny_onRaise ?_))
  show wpAny _ A (Builtin.SmallTypes.nextOf (.ref c) >>= _) _ _ _
  refine wpAny_bind (wpAny_nextOf_list_item (hc.extBut k1.extBut D.i1z) (hl.extBut k1.extBut D.l1z) hx fun g2 c2 k2 => wpAny_pure ?_)
  have v2 : IsPair g2 v a b := k2.extBut _ _ D.TOi1 (k1.extBut _ _ D.TOz hv)
  refine wpAny_bind (wpAny_seqItems v2 rfl (wpAny_bind (wpAny_updateSeq_pair v2 fun g3 v3 k3 => ?_)))
  replace v3 : IsPair g3 v x b := v3
  refine wpAny_bind (wpAny_letGo (wpAny_pure (wpAny_bind (wpAny_bind (wpAny_onRaise ?_)))))
  show wpAny _ A (Builtin.SmallTypes.nextOf (.ref d) >>= _) _ _ _
  have d3 : g3.IsListIter d m j := ((hd.extBut k1.extBut D.i2z).extBut k2.extBut D.i12.symm).extBut k3.extBut D.TOi2.symm
  have m3 : g3.IsList m ys := ((hm.extBut k1.extBut D.l2z).extBut k2.extBut D.l2i1).extBut k3.extBut D.l2TO
  refine wpAny_bind (wpAny_nextOf_list_item d3 m3 hy fun g4 d4 k4 => wpAny_pure ?_)
  have v4 : IsPair g4 v x b := k4.extBut _ _ D.TOi2 v3
  refine wpAny_bind (wpAny_seqItems v4 rfl (wpAny_bind (wpAny_updateSeq_pair v4 fun g5 v5 k5 => ?_)))
  replace v5 : IsPair g5 v x y := v5
  refine wpAny_bind (wpAny_letGo (wpAny_pure (wpAny_pure (wpAny_bind (wpAny_seqItems v5 rfl (wpAny_bind (wpAny_newTuple ?_)))))))
  have sz : g5.objs.size = s.heap.objs.size := by rw [k5.1, k4.1, k3.1, k2.1, k1.1]
  have z5 := k5.extBut _ _ D.TOz.symm (k4.extBut _ _ D.i2z.symm (k3.extBut _ _ D.TOz.symm (k2.extBut _ _ D.i1z.symm z1)))
  have kk : ∀ e o, e ≠ z → e ≠ v → e ≠ c → e ≠ d → s.heap.get? e = some o → g5.get? e = some o := fun e o n1 n2 n3 n4 h =>
    k5.extBut e o n2 (k4.extBut e o n4 (k3.extBut e o n2 (k2.extBut e o n3 (k1.extBut e o n1 h))))
  have c5 : g5.IsListIter c l (i + 1) := ((c2.extBut k3.extBut D.TOi1.symm).extBut k4.extBut D.i12).extBut k5.extBut D.TOi1.symm
  have d5 : g5.IsListIter d m (j + 1) := d4.extBut k5.extBut D.TOi2.symm
  have hzl : z < g5.objs.size := Heap.lt_size z5
  show wpAny _ A (Builtin.SmallTypes.ownedTupleHandOut (.ref z) (.ref g5.objs.size) >>= _) _ E _
  refine wpAny_bind ?_
  unfold Builtin.SmallTypes.ownedTupleHandOut
  have z6 := Heap.get?_push_of_some (Obj.mk (.type "tuple") none (.seq #[x, y]) #[]) z5
  refine wpAny_bind (wpAny_setField_rec (s := { s with heap := _ }) z6 (by simp) fun g7 z7 k7 => wpAny_setField_rec (s := { s with heap := _ }) z7 (by simp) fun g8 z8 k8 => ?_)
  have up : ∀ e o, e ≠ z → g5.get? e = some o → g8.get? e = some o := fun e o n h => k8.extBut e o n (k7.extBut e o n (Heap.get?_push_of_some _ h))
  have t8 : IsPair g8 g5.objs.size x y := k8.extBut _ _ (Nat.ne_of_gt hzl) (k7.extBut _ _ (Nat.ne_of_gt hzl) (Heap.get?_push_size _ rfl))
  replace z8 : IsZipHeld g8 z u v g5.objs.size false := z8
  rw [sz] at z8 t8
  refine wpAny_pure ⟨.ref g5.objs.size, rfl, ?_⟩
  rw [sz]
  exact hQ g8 z8 (up _ _ D.TOz v5) (c5.at fun o e => up _ o D.i1z e) (d5.at fun o e => up _ o D.i2z e) t8 fun e o n1 n2 n3 n4 h => up e o n1 (kk e o n1 n2 n3 n4 h)
theorem dead_end {z u v T c d l m : Addr} {f : Bool} {i j : Nat} {xs ys : Array Value} {a b : Value} {Q : Fin → Shared → Prop} (hh : A.handled = none) (D : ZipApart z u v c d l m) (hz : IsZipHeld s.heap z u v T f) (hT : s.heap.get? T = none) (hu : IsPair s.heap u (.ref c) (.ref d)) (hv : IsPair s.heap v a b)
    (hc : s.heap.IsListIter c l i) (hd : s.heap.IsListIter d m j) (hl : s.heap.IsList l xs) (hm : s.heap.IsList m ys) (hend : xs[i]? = none ∨ ys[j]? = none)
    (hE : ∀ h' e, (∀ b o, b ≠ z → b ≠ v → b ≠ c → b ≠ d → s.heap.get? b = some o → h'.get? b = some o) → (∃ o, h'.get? e = some o ∧ o.cls = .type "StopIteration") → E (.ref e) { s with heap := h' }) :
    wpAny (model prog w) A (Builtin.«zip.__next__» ⟨[.ref z], []⟩) Q E s := by
  show wpAny _ A (field (.ref z) 2 >>= _) _ E s
  refine wpAny_bind (wpAny_field hz rfl (x := Value.bool false) rfl ?_)
  show wpAny _ A (field (.ref z) 3 >>= _) _ E s
  refine wpAny_bind (wpAny_field hz rfl (x := Value.ref u) rfl (wpAny_bind (wpAny_seqItems hu rfl ?_)))
  show wpAny _ A (Builtin.SmallTypes.ownedTupleIsFree (.ref z) >>= _) _ E s
  refine wpAny_bind (own_dead hz hT ?_)
  simp only [if_true]
  refine wpAny_bind (wpAny_rule (wpAny_bind (wpAny_field hz rfl (x := Value.ref v) rfl (wpAny_bind (wpAny_setField_rec hz (by simp) fun g1 z1 k1 => wpAny_bind ?_)))))
  simp only [List.forIn_cons, List.forIn_nil, List.zipIdx_nil, List.zipIdx_cons]
  refine wpAny_bind (wpAny_bind (wpAny_onRaise ?_))
  show wpAny _ A (Builtin.SmallTypes.nextOf (.ref c) >>= _) _ _ _
  rcases ho : xs[i]? with _ | x
  · refine wpAny_bind (wpAny_nextOf_list_end hh (hc.extBut k1.extBut D.i1z) (hl.extBut k1.extBut D.l1z) ho fun g2 e k2 ⟨oe, h1, h2⟩ => ?_)
    have z2 := k2 _ _ D.i1z.symm z1
    have hne : e ≠ z := fun q => by subst q; rw [z2] at h1; cases h1; simp at h2
    exact wpAny_setField_rec z2 (by simp) fun g3 _ k3 => hE g3 e (fun b o n1 _ n3 _ q => k3.extBut _ _ n1 (k2 _ _ n3 (k1.extBut _ _ n1 q))) ⟨oe, k3.extBut _ _ hne h1, h2⟩
  · have hy : ys[j]? = none := hend.elim (fun q => by rw [ho] at q; cases q) id
    refine wpAny_bind (wpAny_nextOf_list_item (hc.extBut k1.extBut D.i1z) (hl.extBut k1.extBut D.l1z) ho fun g2 c2 k2 => wpAny_pure ?_)
    have v2 : IsPair g2 v a b := k2.extBut _ _ D.TOi1 (k1.extBut _ _ D.TOz hv)
    refine wpAny_bind (wpAny_seqItems v2 rfl (wpAny_bind (wpAny_updateSeq_pair v2 fun g3 v3 k3 => ?_)))
    refine wpAny_bind (wpAny_letGo (wpAny_pure (wpAny_bind (wpAny_bind (wpAny_onRaise ?_)))))
    show wpAny _ A (Builtin.SmallTypes.nextOf (.ref d) >>= _) _ _ _
    have d3 : g3.IsListIter d m j := ((hd.extBut k1.extBut D.i2z).extBut k2.extBut D.i12.symm).extBut k3.extBut D.TOi2.symm
    have m3 : g3.IsList m ys := ((hm.extBut k1.extBut D.l2z).extBut k2.extBut D.l2i1).extBut k3.extBut D.l2TO
    refine wpAny_bind (wpAny_nextOf_list_end hh d3 m3 hy fun g4 e k4 ⟨oe, h1, h2⟩ => ?_)
    have z4 := k4 _ _ D.i2z.symm (k3.extBut _ _ D.TOz.symm (k2.extBut _ _ D.i1z.symm z1))
    have hne : e ≠ z := fun q => by subst q; rw [z4] at h1; cases h1; simp at h2
    exact wpAny_setField_rec z4 (by simp) fun g5 _ k5 => hE g5 e (fun b o n1 n2 n3 n4 q => k5.extBut _ _ n1 (k4 _ _ n4 (k3.extBut _ _ n2 (k2.extBut _ _ n3 (k1.extBut _ _ n1 q))))) ⟨oe, k5.extBut _ _ hne h1, h2⟩
/-- a zip whose last pair has got a name, or that gave none yet -/
def ZipN (h : Heap) (z u v : Addr) : Prop := IsZip h z u v .none ∨ ∃ T f, IsZipHeld h z u v T f
theorem ZipN.iter {z u v : Addr} {Q : Value → Shared → Prop} (hz : ZipN s.heap z u v) (h : Q (.ref z) s) : wpAny (model prog w) A (pyIter (.ref z)) Q E s := by
  have hT : s.TypeIs (.ref z) "zip" := by
    rcases hz with hz | ⟨T, f, hz⟩
    · exact ⟨_, hz, rfl⟩
    · exact ⟨_, hz, rfl⟩
  refine wpAny_pyIter_slot hT F.slot_zip_iter (wpAny_call_entry F.slot_zip_iter hT F.entry_zip_iter ?_ (F.args_zip_iter_1 _))
  refine (show wpAny _ _ (ret (Value.ref z)) _ _ _ from wpAny_pure ?_)
  exact ⟨_, rfl, "zip", _, hT, F.slot_zip_next.lookup, h⟩
theorem ZipN.item {z u v c d l m : Addr} {i j : Nat} {xs ys : Array Value} {x y a b : Value} {Q : Option Value → Shared → Prop} (D : ZipApart z u v c d l m) (hz : ZipN s.heap z u v) (hu : IsPair s.heap u (.ref c) (.ref d)) (hv : IsPair s.heap v a b)
    (hc : s.heap.IsListIter c l i) (hd : s.heap.IsListIter d m j) (hl : s.heap.IsList l xs) (hm : s.heap.IsList m ys) (hx : xs[i]? = some x) (hy : ys[j]? = some y)
    (hQ : ∀ h', ZipN h' z u v → (∃ a b, IsPair h' v a b) → h'.IsListIter c l (i + 1) → h'.IsListIter d m (j + 1) → IsPair h' s.heap.objs.size x y →
      (∀ e o, e ≠ z → e ≠ v → e ≠ c → e ≠ d → s.heap.get? e = some o → h'.get? e = some o) → Q (some (.ref s.heap.objs.size)) { s with heap := h' }) :
    wpAny (model prog w) A (pyNext (.ref z)) Q E s := by
  rcases hz with hz | ⟨T, f, hz⟩
  · exact wpAny_pyNext_zip_item D hz hu hv hc hd hl hm hx hy fun h' a1 a2 a3 a4 a5 _ a7 => hQ h' (.inr ⟨_, false, a1⟩) ⟨_, _, a2⟩ a3 a4 a5 a7
  · cases hT : s.heap.get? T with
    | some oT => exact wpAny_pyNext_zip_item_held D hz hT hu hc hd hl hm hx hy fun h' a1 a2 a3 a4 _ a6 => hQ h' (.inr ⟨_, _, a1⟩) ⟨a, b, a6 v _ D.TOz D.TOi1 D.TOi2 hv⟩ a2 a3 a4 fun e o n1 _ n3 n4 q => a6 e o n1 n3 n4 q
    | none =>
      have hTy : s.TypeIs (.ref z) "zip" := ⟨_, hz, rfl⟩
      unfold pyNext
      exact wpAny_bind (wpAny_attempt (wpAny_callSpecial?_slot (name := Str.ofString "__next__") hTy F.slot_zip_next (wpAny_call_entry F.slot_zip_next hTy F.entry_zip_next
        (dead_item D hz hT hu hv hc hd hl hm hx hy fun h' a1 a2 a3 a4 a5 a6 => wpAny_pure (hQ h' (.inr ⟨_, _, a1⟩) ⟨_, _, a2⟩ a3 a4 a5 a6)) (F.args_zip_next_1 _))))
theorem ZipN.stop {z u v c d l m : Addr} {i j : Nat} {xs ys : Array Value} {a b : Value} {Q : Option Value → Shared → Prop} (hh : A.handled = none) (D : ZipApart z u v c d l m) (hz : ZipN s.heap z u v) (hu : IsPair s.heap u (.ref c) (.ref d)) (hv : IsPair s.heap v a b)
    (hc : s.heap.IsListIter c l i) (hd : s.heap.IsListIter d m j) (hl : s.heap.IsList l xs) (hm : s.heap.IsList m ys) (hend : xs[i]? = none ∨ ys[j]? = none)
    (hQ : ∀ h', (∀ e o, e ≠ z → e ≠ v → e ≠ c → e ≠ d → s.heap.get? e = some o → h'.get? e = some o) → Q none { s with heap := h' }) : wpAny (model prog w) A (pyNext (.ref z)) Q E s := by
  rcases hz with hz | ⟨T, f, hz⟩
  · exact wpAny_pyNext_zip_end hh D hz hu hv hc hd hl hm hend hQ
  · cases hT : s.heap.get? T with
    | some oT => exact wpAny_pyNext_zip_end_held hh D hz hT hu hc hd hl hm hend fun h' k => hQ h' fun e o n1 _ n3 n4 q => k e o n1 n3 n4 q
    | none =>
      have hTy : s.TypeIs (.ref z) "zip" := ⟨_, hz, rfl⟩
      unfold pyNext
      refine wpAny_bind (wpAny_attempt (wpAny_callSpecial?_slot (name := Str.ofString "__next__") hTy F.slot_zip_next (wpAny_call_entry F.slot_zip_next hTy F.entry_zip_next
        (dead_end hh D hz hT hu hv hc hd hl hm hend fun h' e hk ⟨o, ho, hc⟩ => ?_) (F.args_zip_next_1 _))))
      exact wpAny_bind (wpAny_isInstance (T := "StopIteration") (b := true) ⟨o, ho, hc⟩ isSubtype_stop (wpAny_pure (hQ _ hk)))
end
theorem turn_zipN {P : Program} {w : World} {K : PySem.W.Frag} {x : Str} {p : Pos} {a b z u v c d : Addr} (D : ZipApart z u v c d a b) :
    Turn P w K (.Name x p) (Itz K a b) [z, u, v, c, d] z (fun i h => ZipN h z u v ∧ IsPair h u (.ref c) (.ref d) ∧ (∃ x y, IsPair h v x y) ∧ h.IsListIter c a i ∧ h.IsListIter d b i) where
  mem := List.mem_cons_self
  obj := fun i h st e he => by
    obtain ⟨hz, hu, ⟨x, y, hv⟩, ⟨o1, e1, _, d1⟩, ⟨o2, e2, _, d2⟩⟩ := st
    simp only [List.mem_cons, List.not_mem_nil, or_false] at he
    rcases he with rfl | rfl | rfl | rfl | rfl
    · rcases hz with hz | ⟨T, f, hz⟩
      · exact ⟨_, hz, fun v q => nomatch q⟩
      · exact ⟨_, hz, fun v q => nomatch q⟩
    · exact ⟨_, hu, fun v q => nomatch q⟩
    · exact ⟨_, hv, fun v q => nomatch q⟩
    · exact ⟨o1, e1, fun v q => by rw [d1] at q; cases q⟩
    · exact ⟨o2, e2, fun v q => by rw [d2] at q; cases q⟩
  keep := fun i h h' st k => by
    obtain ⟨hz, hu, ⟨x, y, hv⟩, h1, h2⟩ := st
    refine ⟨?_, k u (by simp) _ hu, ⟨x, y, k v (by simp) _ hv⟩, h1.at fun o q => k c (by simp) o q, h2.at fun o q => k d (by simp) o q⟩
    rcases hz with hz | ⟨T, f, hz⟩
    · exact .inl (k z (by simp) _ hz)
    · exact .inr ⟨T, f, k z (by simp) _ hz⟩
  item := by
    intro X hP hw hK hc i pins s σ H E I hf st hg
    subst hP hw hK
    obtain ⟨hz, hu, ⟨x0, y0, hv⟩, h1, h2⟩ := st
    obtain ⟨xs, ys, x, y, hqx, hqy, hx, hy⟩ := hg
    obtain ⟨its, rv, p, _⟩ := I.list hqx
    obtain ⟨its2, rv2, p2, _⟩ := I.list hqy
    obtain ⟨r, hr, rr⟩ := rv.get hx
    obtain ⟨r2, hr2, rr2⟩ := rv2.get hy
    refine hz.item D hu hv h1 h2 p.isList p2.isList (x := r) (y := r2) (by simpa using hr) (by simpa using hr2) fun h' z' v' c' d' hT hk => ⟨_, rfl, wpAny_pure ?_⟩
    have new : ObjOk X.prog X.w (upd H s.heap.objs.size (.tup [x, y])) h' s.heap.objs.size (.tup [x, y]) := ⟨by show 2 ≤ sizeLine; decide, [r, r2], .cons rr (.cons rr2 .nil), ⟨_, hT, rfl, _, rfl⟩⟩
    have kk : ∀ e o, e ∉ [z, u, v, c, d] → s.heap.get? e = some o → h'.get? e = some o := fun e o hb q => hk e o (fun q' => hb (by simp [q'])) (fun q' => hb (by simp [q'])) (fun q' => hb (by simp [q'])) (fun q' => hb (by simp [q'])) q
    have I1 : Inv X pins σ (upd H s.heap.objs.size (.tup [x, y])) { s with heap := h' } := I.turnedNew (t' := s.toks) (ch := [z, u, v, c, d]) kk hf (Nat.le_refl _) new
    refine ⟨.ref s.heap.objs.size, _, I1, rfl, ⟨_, x, y, rfl, I.hok.fresh (Nat.le_refl _), rfl, fun l hl => by rw [I.list_inj hl hqx]; exact hx, fun l hl => by rw [I.list_inj hl hqy]; exact hy⟩, ⟨z', hk _ _ D.TIz D.TITO D.TIi1 D.TIi2 hu, v', c', d'⟩, fun e he => ?_⟩
    have hlt : e < s.heap.objs.size := by
      simp only [List.mem_cons, List.not_mem_nil, or_false] at he
      rcases he with rfl | rfl | rfl | rfl | rfl
      · rcases hz with hz | ⟨T, f, hz⟩
        · exact Heap.lt_size hz
        · exact Heap.lt_size hz
      · exact Heap.lt_size hu
      · exact Heap.lt_size hv
      · obtain ⟨_, e1, _⟩ := h1; exact Heap.lt_size e1
      · obtain ⟨_, e2, _⟩ := h2; exact Heap.lt_size e2
    rw [upd_ne (Nat.ne_of_lt hlt)]
    exact (hf e he).1
  done := by
    intro X hP hw hK hc i pins s σ H E I hf st hg
    subst hP hw hK
    obtain ⟨hz, hu, ⟨x0, y0, hv⟩, h1, h2⟩ := st
    obtain ⟨xs, ys, hqx, hqy, hend⟩ := hg
    obtain ⟨its, rv, p, _⟩ := I.list hqx
    obtain ⟨its2, rv2, p2, _⟩ := I.list hqy
    have l1 := rv.length
    have l2 := rv2.length
    refine hz.stop (I.ok.hd hc) D hu hv h1 h2 p.isList p2.isList (hend.imp (fun q => by simp; omega) fun q => by simp; omega) fun h' hk => ⟨rfl, I.turnedL (t' := s.toks) (ch := [z, u, v, c, d]) (fun e o hb q => ?_) hf⟩
    exact hk e o (fun q' => hb (by simp [q'])) (fun q' => hb (by simp [q'])) (fun q' => hb (by simp [q'])) (fun q' => hb (by simp [q'])) q
  self := fun A i s Q E st h => st.1.iter h
theorem pi_zipN {X : Cx} {e e2 : Expr} {ta : TA} {p pos tp : Pos} {x : Str} (hg : Gl X "zip") (hm : X.mg "zip" = none) (ha : PA X [e, e2] ta)
    (hs : starEach [e, e2] X.env = (false, eval e X.env) :: starEach [e2] X.env := by rfl) (hpl : (backTo pos (starEach [e2] X.env)).any (·.1) = false := by rfl) : PI X (.Name x tp) (.Call (.Name "zip" p) [e, e2] [] pos) (iZip X.K ta) := by
  refine ⟨fun pins s σ H R I h => Call_ (ld_blt I hg hm PyProof.Rows.boot_zip (PyProof.Rows.callWith_type1 (thn (ha.run pos pins s σ H _ I h) fun us s1 ⟨vs, H1, I1, r1, a, b, xs, ys, ex, hqx, hqy, q⟩ => ?_) hs hpl))⟩
  subst ex
  obtain ⟨u1, u2, rfl, k1, k2⟩ := vals2 r1
  cases k1
  cases k2
  obtain ⟨its, rv, p1, _⟩ := I1.list hqx
  obtain ⟨its2, rv2, p2, _⟩ := I1.list hqy
  refine call_zip_2 p1.isList p2.isList fun h' hz hTI hTO h1 h2 hsz hk => wpAny_pyIter_zip hz ?_
  refine ⟨s1.heap.objs.size + 4, [s1.heap.objs.size + 4, s1.heap.objs.size + 2, s1.heap.objs.size + 3, s1.heap.objs.size, s1.heap.objs.size + 1], _, _, H1, rfl, I1.kept (t' := s1.toks) hk, turn_zipN (PySem.W.ktu_apart s1.heap.objs.size a b p1.lt p2.lt), ⟨.inl hz, hTI, ⟨_, _, hTO⟩, h1, h2⟩, fun c hc => ?_, q⟩
  have hle : s1.heap.objs.size ≤ c := by
    simp only [List.mem_cons, List.not_mem_nil, or_false] at hc
    rcases hc with rfl | rfl | rfl | rfl | rfl
    · exact Nat.le_add_right _ _
    · exact Nat.le_add_right _ _
    · exact Nat.le_add_right _ _
    · exact Nat.le_refl _
    · exact Nat.le_add_right _ _
  exact I1.fpOk hle (I1.hok.fresh hle)
section
variable {Z : Zc}
theorem zip_si {t : TA} {m : En → Option (List D × En)} (h2 : SA Z t m) : SI Z (iZip Z.K t) (iZp m) := by
  intro g env σ I H R ds env' Rr hm k
  unfold iZp at hm
  cases hes : m env with
  | none => rw [hes] at hm; cases hm
  | some es =>
    rw [hes] at hm
    simp only [Option.bind_some] at hm
    obtain ⟨es, en⟩ := es
    refine h2 g env σ I H _ es en Rr hes fun vs I1 H1 R1 s1 rs => ?_
    dsimp only at hm
    split at hm
    · rename_i xs ys
      cases hm
      cases rs with
      | cons r1 r2 =>
        cases r2 with
        | cons r2 r3 =>
          cases r3
          obtain ⟨a, us, rfl, ha, ra⟩ := r1.lst_inv
          obtain ⟨b, ws, rfl, hb, rb⟩ := r2.lst_inv
          refine ⟨a, b, us, ws, rfl, SqL.of (R1.sub _ _ ha), SqL.of (R1.sub _ _ hb), k _ I1 H1 R1 s1 ?_⟩
          refine ⟨_, _, walk_zip (by rw [zipD_length, ra.length, rb.length]), fun I' H' s s' => ⟨SqL.of (s' _ _ (s _ _ ha)), SqL.of (s' _ _ (s _ _ hb))⟩, fun i d g env σ I' H x H' hd s R y => ?_⟩
          obtain ⟨T, x1, y1, rfl, hT, rfl, hx1, hy1⟩ := y
          obtain ⟨d1, d2, hd1, hd2, rfl⟩ := zipD_get _ _ _ _ hd
          obtain ⟨v, hv, rv⟩ := ra.get hd1
          obtain ⟨w, hw, rw'⟩ := rb.get hd2
          dsimp only at hx1 hy1
          rw [hv] at hx1; cases hx1
          rw [hw] at hy1; cases hy1
          obtain ⟨R2, s2, r2⟩ := R.tup (ds := [d1, d2]) hT (.cons (rv.mono s) (.cons (rw'.mono s) .nil))
          exact ⟨_, R2, s2, r2⟩
    · cases hm
theorem iv_zipN {a b : Expr} {m : En → Option (List D × En)} {x : Str} {p pos tp : Pos} (hg : GlZ Z "zip") (hm : Z.mg "zip" = none) (h : AE Z [a, b] m) (hs : ∀ env, starEach [a, b] env = (false, eval a env) :: starEach [b] env := by intro _; rfl) (hpl : ∀ env, (backTo pos (starEach [b] env)).any (·.1) = false := by intro _; rfl) : IV Z (.Name x tp) (.Call (.Name "zip" p) [a, b] [] pos) (iZp m) := by
  obtain ⟨t, h1, h2⟩ := h
  refine ⟨iZip Z.K t, fun X i => by have q := pi_zipN (X := X) (p := p) (pos := pos) (tp := tp) (x := x) (glOf i hg) (by rw [i.mg]; exact hm) (h1 X i) (hs _) (hpl _); rw [i.K] at q; exact q, ?_⟩
  exact zip_si h2
end
end Q
namespace Q
open PySem L2
/-! ## Meanings reckoned -/
def W (m : MS) (env : En) (Q : Fl → Prop) : Prop := ∃ fl, m env = some fl ∧ Q fl
def sqK (b : MS) (Q : Fl → Prop) : Fl → Prop
  | .nx e => W b e Q
  | fl => Q fl
def lp (P : En → Prop) (Q : Fl → Prop) : Fl → Prop
  | .nx e => P e
  | .ct e => P e
  | .bk e => Q (.nx e)
  | .ret md d e => Q (.ret md d e)
def Rt (R : Md → D → Prop) : Fl → Prop
  | .nx _ => R .imm .non
  | .ret md d _ => R md d
  | _ => False
def RtIo (j : Nat) (R : Md → D → D → Prop) : Fl → Prop
  | .nx e => ∃ x, e[j]? = some (.io 0 x) ∧ R .imm .non x
  | .ret md d e => ∃ x, e[j]? = some (.io 0 x) ∧ R md d x
  | _ => False
def Gt {α : Type} (o : Option α) (F : α → Prop) : Prop := ∃ p, o = some p ∧ F p
@[simp] theorem Gt_some {α : Type} (p : α) (F : α → Prop) : Gt (some p) F ↔ F p := by simp [Gt]
@[simp] theorem Gt_none {α : Type} (F : α → Prop) : Gt (none : Option α) F ↔ False := by simp [Gt]
theorem Gt_iff {α : Type} (o : Option α) (F : α → Prop) : Gt o F ↔ ∃ p, o = some p ∧ F p := Iff.rfl
theorem Gt_congr {α : Type} {o o' : Option α} {F : α → Prop} (h : o = o') : Gt o F = Gt o' F := by rw [h]
theorem bind_congr1 {α β : Type} {o o' : Option α} {F : α → Option β} (h : o = o') : o.bind F = o'.bind F := by rw [h]
theorem map_congr1 {α β : Type} {o o' : Option α} {F : α → β} (h : o = o') : o.map F = o'.map F := by rw [h]
section
variable {a b : MS} {env e : En} {Q : Fl → Prop} {i : Nat} {x : ME} {c : MT} {P : En → Prop} {R : Md → D → Prop} {R2 : Md → D → D → Prop} {md : Md} {d : D} {j : Nat}
@[simp] theorem sqK_nx : sqK b Q (.nx e) ↔ W b e Q := Iff.rfl
@[simp] theorem sqK_bk : sqK b Q (.bk e) ↔ Q (.bk e) := Iff.rfl
@[simp] theorem sqK_ct : sqK b Q (.ct e) ↔ Q (.ct e) := Iff.rfl
@[simp] theorem sqK_ret : sqK b Q (.ret md d e) ↔ Q (.ret md d e) := Iff.rfl
@[simp] theorem lp_nx : lp P Q (.nx e) ↔ P e := Iff.rfl
@[simp] theorem lp_ct : lp P Q (.ct e) ↔ P e := Iff.rfl
@[simp] theorem lp_bk : lp P Q (.bk e) ↔ Q (.nx e) := Iff.rfl
@[simp] theorem lp_ret : lp P Q (.ret md d e) ↔ Q (.ret md d e) := Iff.rfl
@[simp] theorem Rt_ret : Rt R (.ret md d e) ↔ R md d := Iff.rfl
@[simp] theorem Rt_nx : Rt R (.nx e) ↔ R .imm .non := Iff.rfl
@[simp] theorem RtIo_ret : RtIo j R2 (.ret md d e) ↔ ∃ x, e[j]? = some (.io 0 x) ∧ R2 md d x := Iff.rfl
@[simp] theorem RtIo_nx : RtIo j R2 (.nx e) ↔ ∃ x, e[j]? = some (.io 0 x) ∧ R2 .imm .non x := Iff.rfl
@[simp] theorem W_seq : W (mSeq a b) env Q ↔ W a env (sqK b Q) := by
  unfold W mSeq
  constructor
  · rintro ⟨fl, h, q⟩
    obtain ⟨f1, h1, h2⟩ := Option.bind_eq_some_iff.mp h
    refine ⟨f1, h1, ?_⟩
    cases f1 with
    | nx e => exact ⟨fl, h2, q⟩
    | _ => cases h2; exact q
  · rintro ⟨fl, h, q⟩
    rw [h]
    cases fl with
    | nx e => exact q
    | _ => exact ⟨_, rfl, q⟩
@[simp] theorem W_next : W mNext env Q ↔ Q (.nx env) := by simp [W, mNext]
@[simp] theorem W_brk : W mBrk env Q ↔ Q (.bk env) := by simp [W, mBrk]
@[simp] theorem W_cnt : W mCnt env Q ↔ Q (.ct env) := by simp [W, mCnt]
@[simp] theorem W_asg : W (mAsg i x) env Q ↔ Gt (x env) fun p => i < p.2.length ∧ Q (.nx (p.2.set i (.imm p.1))) := by
  rw [Gt_iff]
  unfold W mAsg
  cases h : x env with
  | none => simp
  | some p => by_cases hl : i < p.2.length <;> simp [hl]
@[simp] theorem W_asgF : W (mAsgF i x) env Q ↔ Gt (x env) fun p => i < p.2.length ∧ Q (.nx (p.2.set i (.own p.1))) := by
  rw [Gt_iff]
  unfold W mAsgF
  cases h : x env with
  | none => simp
  | some p => by_cases hl : i < p.2.length <;> simp [hl]
@[simp] theorem W_ret : W (mRet x) env Q ↔ Gt (x env) fun p => Q (.ret .imm p.1 p.2) := by
  rw [Gt_iff]
  unfold W mRet
  cases h : x env <;> simp
@[simp] theorem W_retF : W (mRetF x) env Q ↔ Gt (x env) fun p => Q (.ret .new p.1 p.2) := by
  rw [Gt_iff]
  unfold W mRetF
  cases h : x env <;> simp
@[simp] theorem W_if : W (mIfS c a b) env Q ↔ Gt (c env) fun p => if p.1 = true then W a p.2 Q else W b p.2 Q := by
  rw [Gt_iff]
  unfold W mIfS
  cases h : c env with
  | none => simp
  | some p => cases hp : p.1 <;> simp [hp]
theorem W_mono {Q' : Fl → Prop} (h : W a env Q) (hq : ∀ fl, Q fl → Q' fl) : W a env Q' := let ⟨fl, h1, h2⟩ := h; ⟨fl, h1, hq fl h2⟩
end
@[simp] theorem ap_C (d : D) (env : En) : mC d env = some (d, env) := rfl
@[simp] theorem ap_Var (i : Nat) (env : En) : mVar i env = (match env[i]? with
  | some (.imm d) => some (d, env)
  | some (.own d) => some (d, env.set i (.imm d))
  | _ => none) := rfl
@[simp] theorem ap_lVar (i : Nat) (env : En) : lVar i env = (env[i]?.bind Sl.rd).map fun _ => (Ls.slot i, env) := rfl
@[simp] theorem ap_lFix (m : ME) (env : En) : lFix m env = (m env).map fun p => (Ls.fix p.1, p.2) := rfl
@[simp] theorem ap_Bin (f : D → D → Option D) (a b : ML) (env : En) : mBin f a b env = (a env).bind fun p => (b p.2).bind fun q => (p.1.get q.2).bind fun x => (q.1.get q.2).bind fun y => (f x y).map fun z => (z, q.2) := rfl
@[simp] theorem ap_Test (m : ME) (env : En) : mTest m env = (m env).bind fun p => match p.1 with
  | .bl b => some (b, p.2)
  | _ => none := rfl
@[simp] theorem get_fix (d : D) (env : En) : (Ls.fix d).get env = some d := rfl
@[simp] theorem get_slot (i : Nat) (env : En) : (Ls.slot i).get env = env[i]?.bind Sl.rd := rfl
@[simp] theorem rd_un : Sl.rd .un = none := rfl
@[simp] theorem rd_imm (d : D) : Sl.rd (.imm d) = some d := rfl
@[simp] theorem rd_bor (d : D) : Sl.rd (.bor d) = some d := rfl
@[simp] theorem rd_own (d : D) : Sl.rd (.own d) = some d := rfl
@[simp] theorem rd_io (k : Nat) (d : D) : Sl.rd (.io k d) = some d := rfl
@[simp] theorem own_own (d : D) : Sl.own? (.own d) = some d := rfl
@[simp] theorem own_io (k : Nat) (d : D) : Sl.own? (.io k d) = some d := rfl
@[simp] theorem put_own (d x : D) : Sl.put (.own d) x = .own x := rfl
@[simp] theorem put_io (k : Nat) (d x : D) : Sl.put (.io k d) x = .io k x := rfl
@[simp] theorem ap_And (a b : MT) (env : En) : mAnd a b env = (a env).bind fun p => if p.1 then b p.2 else some (false, p.2) := rfl
@[simp] theorem ap_Or (a b : MT) (env : En) : mOr a b env = (a env).bind fun p => if p.1 then some (true, p.2) else b p.2 := rfl
@[simp] theorem ap_Not (a : MT) (env : En) : mNot a env = (a env).map fun p => (!p.1, p.2) := rfl
@[simp] theorem ap_AndV (a b : ME) (env : En) : mAndV a b env = (mTest a env).bind fun p => if p.1 then b p.2 else some (.bl false, p.2) := rfl
@[simp] theorem ap_OrV (a b : ME) (env : En) : mOrV a b env = (mTest a env).bind fun p => if p.1 then some (.bl true, p.2) else b p.2 := rfl
@[simp] theorem ap_NotV (a : ME) (env : En) : mNotV a env = (mTest a env).map fun p => (.bl (!p.1), p.2) := rfl
@[simp] theorem ap_Tru (m : ML) (env : En) : mTru m env = (m env).bind fun p => (p.1.get p.2).bind fun d => (dTru d).map fun b => (b, p.2) := rfl
@[simp] theorem ap_aNil (env : En) : aNil env = some ([], env) := rfl
@[simp] theorem ap_aCons (a : ME) (r : En → Option (List D × En)) (env : En) : aCons a r env = (a env).bind fun p => (r p.2).map fun q => (p.1 :: q.1, q.2) := rfl
theorem sz10 : 10000 ≤ sizeLine := by decide
theorem ap_Lst (a : En → Option (List D × En)) (env : En) : mLst a env = (a env).bind fun p => if p.1.length ≤ sizeLine then some (.lst p.1, p.2) else none := rfl
theorem ap_Tup (a : En → Option (List D × En)) (env : En) : mTup a env = (a env).bind fun p => if p.1.length ≤ sizeLine then some (.tup p.1, p.2) else none := rfl
theorem small_lt {n : Nat} (h : n ≤ 10000) : n ≤ sizeLine := Nat.le_trans h sz10
theorem Lst_ok {a : En → Option (List D × En)} {env e : En} {xs : List D} (h : a env = some (xs, e)) (hl : xs.length ≤ 10000) : mLst a env = some (.lst xs, e) := by
  have h2 : xs.length ≤ sizeLine := small_lt hl
  unfold mLst; rw [h]; simp only [Option.bind_some]; rw [if_pos h2]
theorem Tup_ok {a : En → Option (List D × En)} {env e : En} {xs : List D} (h : a env = some (xs, e)) (hl : xs.length ≤ 10000) : mTup a env = some (.tup xs, e) := by
  have h2 : xs.length ≤ sizeLine := small_lt hl
  unfold mTup; rw [h]; simp only [Option.bind_some]; rw [if_pos h2]
@[simp] theorem Lst_0 (env : En) : mLst aNil env = some (.lst [], env) := Lst_ok rfl (by simp)
@[simp] theorem Lst_1 (a : ME) (env : En) : mLst (aCons a aNil) env = (a env).map fun p => (.lst [p.1], p.2) := by
  cases h : a env with
  | none => unfold mLst; simp [h]
  | some p => exact Lst_ok (xs := [p.1]) (by simp [h]) (by simp)
@[simp] theorem Lst_2 (a b : ME) (env : En) : mLst (aCons a (aCons b aNil)) env = (a env).bind fun p => (b p.2).map fun q => (.lst [p.1, q.1], q.2) := by
  cases h : a env with
  | none => unfold mLst; simp [h]
  | some p =>
    cases h2 : b p.2 with
    | none => unfold mLst; simp [h, h2]
    | some q => simp only [Option.bind_some, h2, Option.map_some]; exact Lst_ok (xs := [p.1, q.1]) (by simp [h, h2]) (by simp)
@[simp] theorem Lst_3 (a b c : ME) (env : En) : mLst (aCons a (aCons b (aCons c aNil))) env = (a env).bind fun p => (b p.2).bind fun q => (c q.2).map fun r => (.lst [p.1, q.1, r.1], r.2) := by
  cases h : a env with
  | none => unfold mLst; simp [h]
  | some p =>
    cases h2 : b p.2 with
    | none => unfold mLst; simp [h, h2]
    | some q =>
      cases h3 : c q.2 with
      | none => unfold mLst; simp [h, h2, h3]
      | some r => simp only [Option.bind_some, h2, h3, Option.map_some]; exact Lst_ok (xs := [p.1, q.1, r.1]) (by simp [h, h2, h3]) (by simp)
@[simp] theorem Tup_2 (a b : ME) (env : En) : mTup (aCons a (aCons b aNil)) env = (a env).bind fun p => (b p.2).map fun q => (.tup [p.1, q.1], q.2) := by
  cases h : a env with
  | none => unfold mTup; simp [h]
  | some p =>
    cases h2 : b p.2 with
    | none => unfold mTup; simp [h, h2]
    | some q => simp only [Option.bind_some, h2, Option.map_some]; exact Tup_ok (xs := [p.1, q.1]) (by simp [h, h2]) (by simp)
@[simp] theorem Tup_3 (a b c : ME) (env : En) : mTup (aCons a (aCons b (aCons c aNil))) env = (a env).bind fun p => (b p.2).bind fun q => (c q.2).map fun r => (.tup [p.1, q.1, r.1], r.2) := by
  cases h : a env with
  | none => unfold mTup; simp [h]
  | some p =>
    cases h2 : b p.2 with
    | none => unfold mTup; simp [h, h2]
    | some q =>
      cases h3 : c q.2 with
      | none => unfold mTup; simp [h, h2, h3]
      | some r => simp only [Option.bind_some, h2, h3, Option.map_some]; exact Tup_ok (xs := [p.1, q.1, r.1]) (by simp [h, h2, h3]) (by simp)
@[simp] theorem ap_bNil (env : En) : bNil env = some ([], env) := rfl
@[simp] theorem ap_bCons (a : ML) (r : En → Option (List Ls × En)) (env : En) : bCons a r env = (a env).bind fun p => (r p.2).map fun q => (p.1 :: q.1, q.2) := rfl
@[simp] theorem ap_Bi (f : List D → Option D) (a : En → Option (List Ls × En)) (env : En) : mBi f a env = (a env).bind fun p => (lsGet p.1 p.2).bind fun ds => (f ds).map fun z => (z, p.2) := rfl
@[simp] theorem lsGet_nil (env : En) : lsGet [] env = some [] := rfl
@[simp] theorem lsGet_cons (l : Ls) (ls : List Ls) (env : En) : lsGet (l :: ls) env = (l.get env).bind fun d => (lsGet ls env).map fun ds => d :: ds := rfl
@[simp] theorem ap_iAny (a : ME) (env : En) : iAny a env = (a env).bind fun p => (p.1.walk?).map fun xs => (xs, p.2) := rfl
@[simp] theorem ap_gN (i : Nat) (d : D) (env : En) : gN i d env = if i < env.length then some (env.set i (.imm d)) else none := rfl
theorem ap_iR1 (a : En → Option (List D × En)) (env : En) : iR1 a env = (a env).bind fun p => match p.1 with
  | [.int j] => if -(2 ^ 62) ≤ j ∧ j < 2 ^ 62 then some (rngD 0 j.toNat, p.2) else none
  | _ => none := rfl
theorem ap_iR2 (a : En → Option (List D × En)) (env : En) : iR2 a env = (a env).bind fun p => match p.1 with
  | [.int i, .int j] => if -(2 ^ 62) ≤ i ∧ i < 2 ^ 62 ∧ -(2 ^ 62) ≤ j ∧ j < 2 ^ 62 then some (rngD i (j - i).toNat, p.2) else none
  | _ => none := rfl
@[simp] theorem ap_Yes (env : En) : mYes env = some (true, env) := rfl
@[simp] theorem ap_cNil (env : En) : cNil env = some ([], env) := rfl
@[simp] theorem ap_cImm (a : ME) (r : MG) (env : En) : cImm a r env = (a env).bind fun p => (r p.2).map fun q => (.imm p.1 :: q.1, q.2) := rfl
@[simp] theorem ap_cBor (i : Nat) (r : MG) (env : En) : cBor i r env = (env[i]?.bind Sl.rd).bind fun _ => (r env).map fun q => (.bor i :: q.1, q.2) := rfl
@[simp] theorem ap_cIo (i : Nat) (r : MG) (env : En) : cIo i r env = (env[i]?.bind Sl.own?).bind fun _ => (r env).map fun q => (.io i :: q.1, q.2) := rfl
@[simp] theorem ap_Fld (c : String) (f : Str) (a : ML) (env : En) : mFld c f a env = (a env).bind fun p => (p.1.get p.2).bind fun x => (dFld c f x).map fun z => (z, p.2) := rfl
@[simp] theorem ap_oNone (env : En) : oNone env = some (none, env) := rfl
@[simp] theorem ap_oSome (a : ME) (env : En) : oSome a env = (a env).bind fun p => match p.1 with
  | .int i => some (some i, p.2)
  | _ => none := rfl
@[simp] theorem ap_Sl (f : D → Option Int → Option Int → Option D) (a : ML) (lo hi : En → Option (Option Int × En)) (env : En) : mSl f a lo hi env = (a env).bind fun p => (lo p.2).bind fun q => (hi q.2).bind fun r => (p.1.get r.2).bind fun x => (f x q.1 r.1).map fun z => (z, r.2) := rfl
theorem ap_putS (env : En) (i : Nat) (d : D) : putS env i d = (match env[i]? with
  | some s => env.set i (s.put d)
  | none => env) := rfl
theorem ap_ownL (env : En) (i : Nat) : ownL env i = (env[i]?).bind fun s => (s.own?).bind fun d => match d with
  | .lst xs => some xs
  | _ => none := rfl
section
variable {a b : MS} {env e : En} {Q : Fl → Prop} {i : Nat} {x y : ME} {c : MT}
@[simp] theorem W_app : W (mApp i x) env Q ↔ Gt (ownL env i) fun ys => Gt (x env) fun p => Gt (ownL p.2 i) fun xs => xs.length < sizeLine ∧ Q (.nx (putS p.2 i (.lst (xs ++ [p.1])))) := by
  simp only [Gt]
  unfold W mApp
  cases h : ownL env i with
  | none => simp
  | some ys =>
    cases h1 : x env with
    | none => simp
    | some p =>
      cases h2 : ownL p.2 i with
      | none => simp [h2]
      | some xs => by_cases hl : xs.length < sizeLine <;> simp [hl, h2]
@[simp] theorem W_setI : W (mSetI i x y) env Q ↔ Gt (x env) fun p => Gt (ownL p.2 i) fun ys => Gt (y p.2) fun q => Gt (ownL q.2 i) fun xs => Gt (match q.1 with | .int n => some n | _ => none) fun n => Gt (ixN xs.length n) fun k => Q (.nx (putS q.2 i (.lst (xs.set k p.1)))) := by
  have hm : ∀ (d : D) (F : Int → Prop), Gt (match d with | .int n => some n | _ => none) F ↔ ∃ n, d = .int n ∧ F n := fun d F => by cases d <;> simp
  simp only [hm]
  simp only [Gt]
  unfold W mSetI
  cases h1 : x env with
  | none => simp
  | some p =>
    cases h : ownL p.2 i with
    | none => simp [h]
    | some ys =>
      cases h2 : y p.2 with
      | none => simp [h, h2]
      | some q =>
        obtain ⟨qd, qe⟩ := q
        cases h3 : ownL qe i with
        | none => simp [h, h2, h3]
        | some xs =>
          cases qd with
          | int n =>
            cases hk : ixN xs.length n with
            | none => simp [h, h2, h3, hk]
            | some k =>
              simp only [Option.bind_some, h, h2, h3, hk, Option.map_some]
              constructor
              · rintro ⟨fl, e, q⟩
                cases e
                exact ⟨p, rfl, ys, h, (.int n, qe), h2, xs, h3, n, rfl, k, hk, q⟩
              · rintro ⟨p', e0, ys', e1, q', e2, xs', e3, n', e, k', e4, q⟩
                cases e0
                rw [h2] at e2; cases e2
                cases e
                rw [h3] at e3; cases e3
                rw [hk] at e4; cases e4
                exact ⟨_, rfl, q⟩
          | _ => simp [h, h2, h3]
@[simp] theorem W_retO : W (mRetO i) env Q ↔ (∃ d, env[i]? = some (.own d) ∧ Q (.ret .new d (env.set i .un))) ∨ ∃ d, env[i]? = some (.imm d) ∧ Q (.ret .imm d env) := by
  unfold W mRetO
  cases h : env[i]? with
  | none => simp
  | some s => cases s <;> simp
@[simp] theorem W_aug {f : Int → Int → Int} : W (mAug f i x) env Q ↔ Gt (match env[i]? with | some (.imm (.int z)) => some z | _ => none) fun z => Gt (x env) fun p => Gt (match p.1 with | .int y => some y | _ => none) fun y => i < p.2.length ∧ Q (.nx (p.2.set i (.imm (.int (f z y))))) := by
  unfold W mAug
  cases h : env[i]? with
  | none => simp
  | some s =>
    cases s with
    | imm d =>
      cases d with
      | int z =>
        cases h1 : x env with
        | none => simp
        | some p =>
          obtain ⟨pd, pe⟩ := p
          cases pd with
          | int y => by_cases hl : i < pe.length <;> simp [hl]
          | _ => simp
      | _ => simp
    | _ => simp
@[simp] theorem ap_putS2 (env : En) (i : Nat) (d : D) : putS env i d = (match env[i]? with
  | some s => env.set i (s.put d)
  | none => env) := rfl
@[simp] theorem ap_ownL2 (env : En) (i : Nat) : ownL env i = (env[i]?).bind fun s => (s.own?).bind fun d => match d with
  | .lst xs => some xs
  | _ => none := rfl
/-- a for -/
theorem W_for {it : MI} {gf : D → En → Option En} {body : MS} {ds : List D} {e0 : En} (hi : it env = some (ds, e0)) (P : Nat → En → Prop) (h0 : P 0 e0)
    (hs : ∀ i d e, ds[i]? = some d → P i e → ∃ e1, gf d e = some e1 ∧ W body e1 (lp (P (i + 1)) Q)) (hend : ∀ e, P ds.length e → Q (.nx e)) : W (mForS it gf body) env Q := by
  have key : ∀ (ds : List D) (P : Nat → En → Prop) (e0 : En), P 0 e0 → (∀ i d e, ds[i]? = some d → P i e → ∃ e1, gf d e = some e1 ∧ W body e1 (lp (P (i + 1)) Q)) → (∀ e, P ds.length e → Q (.nx e)) → ∃ fl, mFor gf body ds e0 = some fl ∧ Q fl := by
    intro ds
    induction ds with
    | nil => intro P e0 h0 _ he; exact ⟨.nx e0, rfl, he _ h0⟩
    | cons d ds ih =>
      intro P e0 h0 hs he
      obtain ⟨e1, h1, fl, h2, h3⟩ := hs 0 d e0 rfl h0
      have step : ∀ e2, P 1 e2 → ∃ fl, mFor gf body ds e2 = some fl ∧ Q fl := fun e2 hp => ih (fun i => P (i + 1)) e2 hp (fun i d' e' hd hp' => hs (i + 1) d' e' (by simpa using hd) hp') (fun e' hp' => he e' (by simpa using hp'))
      cases fl with
      | nx e2 =>
        obtain ⟨fl, h4, h5⟩ := step e2 h3
        exact ⟨fl, by simp [mFor, h1, h2, h4], h5⟩
      | ct e2 =>
        obtain ⟨fl, h4, h5⟩ := step e2 h3
        exact ⟨fl, by simp [mFor, h1, h2, h4], h5⟩
      | bk e2 => exact ⟨.nx e2, by simp [mFor, h1, h2], h3⟩
      | ret md r e2 => exact ⟨.ret md r e2, by simp [mFor, h1, h2], h3⟩
  obtain ⟨fl, h1, h2⟩ := key ds P e0 h0 hs hend
  exact ⟨fl, by simp [mForS, hi, h1], h2⟩
/-- a while: at most n turns are left -/
theorem W_wh {fu : En → Nat} (P : Nat → En → Prop) (n : Nat) (h0 : P n env) (hn : n < fu env)
    (hs : ∀ n e, P n e → ∃ q e1, c e = some (q, e1) ∧ (q = true → ∃ m, n = m + 1 ∧ W b e1 (lp (P m) Q)) ∧ (q = false → Q (.nx e1))) : W (mWh fu c b) env Q := by
  have key : ∀ (k n : Nat) (e : En), P n e → n < k → ∃ fl, mWhile c b k e = some fl ∧ Q fl := by
    intro k
    induction k with
    | zero => intro n e _ h; omega
    | succ k ih =>
      intro n e hp hn
      obtain ⟨q, e1, h1, h2, h3⟩ := hs n e hp
      cases q with
      | false => exact ⟨.nx e1, by simp [mWhile, h1], h3 rfl⟩
      | true =>
        obtain ⟨m, rfl, fl, h4, h5⟩ := h2 rfl
        cases fl with
        | nx e2 => obtain ⟨fl, h6, h7⟩ := ih m e2 h5 (by omega); exact ⟨fl, by simp [mWhile, h1, h4, h6], h7⟩
        | ct e2 => obtain ⟨fl, h6, h7⟩ := ih m e2 h5 (by omega); exact ⟨fl, by simp [mWhile, h1, h4, h6], h7⟩
        | bk e2 => exact ⟨.nx e2, by simp [mWhile, h1, h4], h5⟩
        | ret md r e2 => exact ⟨.ret md r e2, by simp [mWhile, h1, h4], h5⟩
  obtain ⟨fl, h1, h2⟩ := key (fu env) n env h0 hn
  exact ⟨fl, h1, h2⟩
end
/-- a comprehension -/
theorem lc_ok {vs : List Nat} {mi : MI} {gf : D → En → Option En} {mt : MT} {me : ME} {env e0 : En} {ds : List D} (hi : mi env = some (ds, e0)) (hc : calmAt e0 vs = true) (hl : ds.length ≤ 10000) (E : En → Prop) (P : Nat → List D → Prop) (hE : E e0) (hP : P 0 [])
    (hs : ∀ i d e acc, ds[i]? = some d → E e → P i acc → ∃ e1 b e2, gf d (wipeE e vs) = some e1 ∧ mt e1 = some (b, e2) ∧ (b = true → ∃ x e3, me e2 = some (x, e3) ∧ E e3 ∧ P (i + 1) (acc ++ [x])) ∧ (b = false → E e2 ∧ P (i + 1) acc)) :
    ∃ acc e2, mLc vs mi gf mt me env = some (.lst acc, backE e0 (wipeE e2 vs) vs) ∧ E e2 ∧ P ds.length acc := by
  have key : ∀ (ds : List D) (P : Nat → List D → Prop) (e : En) (acc : List D), acc.length + ds.length ≤ 10000 → E e → P 0 acc → (∀ i d e acc, ds[i]? = some d → E e → P i acc → ∃ e1 b e2, gf d (wipeE e vs) = some e1 ∧ mt e1 = some (b, e2) ∧ (b = true → ∃ x e3, me e2 = some (x, e3) ∧ E e3 ∧ P (i + 1) (acc ++ [x])) ∧ (b = false → E e2 ∧ P (i + 1) acc)) →
      ∃ acc' e2, lcLoop gf mt me vs ds acc e = some (acc', e2) ∧ E e2 ∧ P ds.length acc' := by
    intro ds
    induction ds with
    | nil => intro P e acc _ hE hP _; exact ⟨acc, e, rfl, hE, hP⟩
    | cons d ds ih =>
      intro P e acc hl hE hP hs
      obtain ⟨e1, b, e2, h1, h2, h3, h4⟩ := hs 0 d e acc rfl hE hP
      have step : ∀ e' acc', acc'.length ≤ acc.length + 1 → E e' → P 1 acc' → ∃ acc'' e2, lcLoop gf mt me vs ds acc' e' = some (acc'', e2) ∧ E e2 ∧ P (ds.length + 1) acc'' := fun e' acc' hl' hE' hP' =>
        ih (fun i => P (i + 1)) e' acc' (by simp at hl; omega) hE' hP' (fun i d' e'' acc'' hd he hp => hs (i + 1) d' e'' acc'' (by simpa using hd) he hp)
      cases b with
      | true =>
        obtain ⟨x, e3, h5, h6, h7⟩ := h3 rfl
        obtain ⟨acc', e4, h8, h9, h10⟩ := step e3 (acc ++ [x]) (by simp) h6 h7
        have := sz10
        exact ⟨acc', e4, by simp only [lcLoop, h1, h2, h5, Option.bind_some, if_true]; rw [if_pos (by simp at hl; omega), h8], h9, h10⟩
      | false =>
        obtain ⟨h5, h6⟩ := h4 rfl
        obtain ⟨acc', e4, h8, h9, h10⟩ := step e2 acc (by omega) h5 h6
        exact ⟨acc', e4, by simp only [lcLoop, h1, h2, Option.bind_some, Bool.false_eq_true, if_false, h8], h9, h10⟩
  obtain ⟨acc, e2, h1, h2, h3⟩ := key ds P e0 [] (by simpa using hl) hE hP hs
  exact ⟨acc, e2, by simp [mLc, hi, hc, h1], h2, h3⟩
theorem dc_ok {vs : List Nat} {mi : MI} {gf : D → En → Option En} {mt : MT} {mk mv : ME} {env e0 : En} {ds : List D} (hi : mi env = some (ds, e0)) (hc : calmAt e0 vs = true) (hl : ds.length ≤ 10000) (E : En → Prop) (P : Nat → List Key → List D → Prop) (hE : E e0) (hP : P 0 [] [])
    (hs : ∀ i d e ks xs, ds[i]? = some d → E e → xs.length ≤ i → P i ks xs → ∃ e1 b e2, gf d (wipeE e vs) = some e1 ∧ mt e1 = some (b, e2) ∧ (b = true → ∃ q e3 k r e4, mk e2 = some (q, e3) ∧ q.key? = some k ∧ mv e3 = some (r, e4) ∧ E e4 ∧ (putKD k r ks xs).length ≤ i + 1 ∧ P (i + 1) (putKK k ks) (putKD k r ks xs)) ∧ (b = false → E e2 ∧ P (i + 1) ks xs)) :
    ∃ ks xs e2, mDc vs mi gf mt mk mv env = some (.dic ks xs, backE e0 (wipeE e2 vs) vs) ∧ E e2 ∧ P ds.length ks xs := by
  have key : ∀ (ds : List D) (n : Nat) (e : En) (ks : List Key) (xs : List D), n + ds.length ≤ 10000 → xs.length ≤ n → E e → P n ks xs → (∀ i d e ks xs, ds[i]? = some d → E e → xs.length ≤ n + i → P (n + i) ks xs → ∃ e1 b e2, gf d (wipeE e vs) = some e1 ∧ mt e1 = some (b, e2) ∧ (b = true → ∃ q e3 k r e4, mk e2 = some (q, e3) ∧ q.key? = some k ∧ mv e3 = some (r, e4) ∧ E e4 ∧ (putKD k r ks xs).length ≤ n + i + 1 ∧ P (n + i + 1) (putKK k ks) (putKD k r ks xs)) ∧ (b = false → E e2 ∧ P (n + i + 1) ks xs)) →
      ∃ ks' xs' e2, dcLoop gf mt mk mv vs ds ks xs e = some (ks', xs', e2) ∧ E e2 ∧ P (n + ds.length) ks' xs' := by
    intro ds
    induction ds with
    | nil => intro n e ks xs _ _ hE hP _; exact ⟨ks, xs, e, rfl, hE, hP⟩
    | cons d ds ih =>
      intro n e ks xs hl hx hE hP hs
      obtain ⟨e1, b, e2, h1, h2, h3, h4⟩ := hs 0 d e ks xs rfl hE hx hP
      have step : ∀ e' ks' xs', xs'.length ≤ n + 1 → E e' → P (n + 1) ks' xs' → ∃ ks2 xs2 e2, dcLoop gf mt mk mv vs ds ks' xs' e' = some (ks2, xs2, e2) ∧ E e2 ∧ P (n + (d :: ds).length) ks2 xs2 := fun e' ks' xs' hx' hE' hP' => by
        have := ih (n + 1) e' ks' xs' (by simp at hl; omega) hx' hE' hP' (fun i d' e'' ks'' xs'' hd he hx'' hp => by
          have := hs (i + 1) d' e'' ks'' xs'' (by simpa using hd) he (by omega) (by rw [← Nat.add_assoc, Nat.add_right_comm]; exact hp)
          rw [← Nat.add_assoc, Nat.add_right_comm n i 1] at this
          exact this)
        rw [List.length_cons, ← Nat.add_assoc, Nat.add_right_comm]; exact this
      cases b with
      | true =>
        obtain ⟨q, e3, k, r, e4, h5, h6, h7, h8, h9, h10⟩ := h3 rfl
        obtain ⟨ks2, xs2, e5, h11, h12, h13⟩ := step e4 _ _ h9 h8 h10
        have := sz10
        exact ⟨ks2, xs2, e5, by simp only [dcLoop, h1, h2, h5, h6, h7, Option.bind_some, if_true]; rw [if_pos (by simp at hl; omega), h11], h12, h13⟩
      | false =>
        obtain ⟨h5, h6⟩ := h4 rfl
        obtain ⟨ks2, xs2, e5, h11, h12, h13⟩ := step e2 ks xs (by omega) h5 h6
        exact ⟨ks2, xs2, e5, by simp only [dcLoop, h1, h2, Option.bind_some, Bool.false_eq_true, if_false, h11], h12, h13⟩
  obtain ⟨ks, xs, e2, h1, h2, h3⟩ := key ds 0 e0 [] [] (by simpa using hl) (by simp) hE hP (fun i d e ks xs hd he hx hp => by simpa using hs i d e ks xs hd he (by simpa using hx) (by simpa using hp))
  exact ⟨ks, xs, e2, by simp [mDc, hi, hc, h1], h2, by simpa using h3⟩
/-! ### calls -/
theorem call_imm {N : List Str} {np : Nat} {mf : MS} {a : MG} {env e1 : En} {as : List Ag} {ss : List Sl} {R : Md → D → Prop} (h1 : a env = some (as, e1)) (h2 : iosOf as = []) (h3 : as.length = np) (h4 : slotsOf e1 0 as = some ss)
    (h5 : W mf (ss ++ List.replicate (N.length - ss.length) .un) (Rt R)) : ∃ md d, R md d ∧ mCallV N np mf a env = some (d, e1) ∧ (md = .new → mCallF N np mf a env = some (d, e1)) := by
  have hap : apart as = true := by unfold apart; rw [h2]; simp
  obtain ⟨fl, h6, h7⟩ := h5
  have c : ∀ md d, fl = .nx (match fl with | .nx e => e | _ => []) ∧ md = .imm ∧ d = .non ∨ (∃ e, fl = .ret md d e) → mCall N mf a env = some (md, d, e1) := by
    intro md d hc
    unfold mCall
    rw [h1]
    simp only [Option.bind_some]
    rw [if_pos hap, h4]
    simp only [Option.bind_some]
    rw [h6, h2]
    rcases hc with ⟨hc, rfl, rfl⟩ | ⟨e, rfl⟩
    · rw [hc]; rfl
    · rfl
  have fin : ∀ md d, R md d → mCall N mf a env = some (md, d, e1) → ∃ md d, R md d ∧ mCallV N np mf a env = some (d, e1) ∧ (md = .new → mCallF N np mf a env = some (d, e1)) := fun md d hr hc => by
    refine ⟨md, d, hr, ?_, fun hn => ?_⟩
    · unfold mCallV
      rw [h1, hc, if_pos (by simp [h3])]; rfl
    · unfold mCallF
      rw [h1, hc, if_pos (by simp [h3]), hn]; rfl
  cases fl with
  | nx e => exact fin _ _ h7 (c _ _ (.inl ⟨rfl, rfl, rfl⟩))
  | ret md d e => exact fin _ _ h7 (c _ _ (.inr ⟨e, rfl⟩))
  | bk e => exact h7.elim
  | ct e => exact h7.elim
theorem call_io {N : List Str} {np : Nat} {mf : MS} {a : MG} {env e1 : En} {as : List Ag} {ss : List Sl} {R : Md → D → D → Prop} {i j : Nat} (h1 : a env = some (as, e1)) (h2 : iosOf as = [i]) (hb : i ∉ borsOf as) (hj : ioPlaces 0 as = [j]) (h3 : as.length = np) (h4 : slotsOf e1 0 as = some ss)
    (h5 : W mf (ss ++ List.replicate (N.length - ss.length) .un) (RtIo j R)) : ∃ md d x, R md d x ∧ mCallV N np mf a env = some (d, putS e1 i x) ∧ (md = .new → mCallF N np mf a env = some (d, putS e1 i x)) := by
  have hap : apart as = true := by
    unfold apart; rw [h2]
    simp only [Bool.and_eq_true, List.all_eq_true, decide_eq_true_eq]
    exact ⟨by simp, fun k hk => by simp; intro z; exact hb (by rw [← z]; exact hk)⟩
  obtain ⟨fl, h6, h7⟩ := h5
  have fin : ∀ md d x, R md d x → mCall N mf a env = some (md, d, putS e1 i x) → ∃ md d x, R md d x ∧ mCallV N np mf a env = some (d, putS e1 i x) ∧ (md = .new → mCallF N np mf a env = some (d, putS e1 i x)) := fun md d x hr hc => by
    refine ⟨md, d, x, hr, ?_, fun hn => ?_⟩
    · unfold mCallV
      rw [h1, hc, if_pos (by simp [h3])]; rfl
    · unfold mCallF
      rw [h1, hc, if_pos (by simp [h3]), hn]; rfl
  have pre : ∀ md d e x, e[j]? = some (.io 0 x) → (fl = .nx e ∧ md = .imm ∧ d = .non ∨ fl = .ret md d e) → mCall N mf a env = some (md, d, putS e1 i x) := by
    intro md d e x hx hc
    unfold mCall
    rw [h1]
    simp only [Option.bind_some]
    rw [if_pos hap, h4]
    simp only [Option.bind_some]
    rw [h6, h2, hj]
    rcases hc with ⟨rfl, rfl, rfl⟩ | rfl
    · simp only [Option.bind_some, backIo, hx]; rfl
    · simp only [Option.bind_some, backIo, hx]; rfl
  cases fl with
  | nx e => obtain ⟨x, hx, hr⟩ := h7; exact fin _ _ x hr (pre _ _ e x hx (.inl ⟨rfl, rfl, rfl⟩))
  | ret md d e => obtain ⟨x, hx, hr⟩ := h7; exact fin _ _ x hr (pre _ _ e x hx (.inr rfl))
  | bk e => exact h7.elim
  | ct e => exact h7.elim
/-! ### small facts -/
@[simp] theorem rng_at (lo : Int) (n i : Nat) : (rngD lo n)[i]? = if i < n then some (.int (lo + i)) else none := by
  unfold rngD
  by_cases h : i < n <;> simp [h]
@[simp] theorem rng_len (lo : Int) (n : Nat) : (rngD lo n).length = n := by simp [rngD]
end Q
namespace Q
open PySem L2
/-! ### the plain operations on what they are asked -/
theorem atI_at {α : Type} (xs : List α) (n : Int) (h : 0 ≤ n) : atI xs n = xs[n.toNat]? := by
  unfold atI ixN
  rw [if_pos h]
  by_cases h1 : n < xs.length
  · rw [if_pos h1]; rfl
  · rw [if_neg h1, List.getElem?_eq_none (by omega)]; rfl
@[simp] theorem atI_cast {α : Type} (xs : List α) (n : Nat) : atI xs (n : Int) = xs[n]? := by rw [atI_at _ _ (by omega)]; simp
@[simp] theorem atI_0 {α : Type} (xs : List α) : atI xs 0 = xs[0]? := by rw [atI_at _ _ (by omega)]; simp
@[simp] theorem atI_1 {α : Type} (xs : List α) : atI xs 1 = xs[1]? := by rw [atI_at _ _ (by omega)]; simp
@[simp] theorem atI_2 {α : Type} (xs : List α) : atI xs 2 = xs[2]? := by rw [atI_at _ _ (by omega)]; simp
theorem ixN_cast {n k : Nat} (h : k < n) : ixN n (k : Int) = some k := by
  unfold ixN; rw [if_pos (by omega), if_pos (by omega)]; simp
@[simp] theorem ixN_1 {n : Nat} : ixN (n + 1 + 1) 1 = some 1 := ixN_cast (k := 1) (by omega)
@[simp] theorem ix_lst (xs : List D) (i : Int) : dIx (.lst xs) (.int i) = atI xs i := rfl
@[simp] theorem ix_scr (xs : List D) (i : Int) : dIx (.scr xs) (.int i) = atI xs i := rfl
@[simp] theorem ix_tup (xs : List D) (i : Int) : dIx (.tup xs) (.int i) = atI xs i := rfl
theorem ix_str (z : Str) (i : Int) : dIx (.str z) (.int i) = if z.length ≤ sizeLine then (atI z.cps.toList i).map fun c => .str ⟨#[c]⟩ else none := rfl
@[simp] theorem add_int (a b : Int) : dAdd (.int a) (.int b) = some (.int (a + b)) := rfl
@[simp] theorem add_str (a b : Str) : dAdd (.str a) (.str b) = if a.length + b.length ≤ sizeLine then some (.str (a ++ b)) else none := rfl
@[simp] theorem sub_int (a b : Int) : dSub (.int a) (.int b) = some (.int (a - b)) := rfl
theorem mul_int (a b : Int) : dMul (.int a) (.int b) = if CMul a b then some (.int (a * b)) else none := rfl
theorem mul_left {a b : Int} (h1 : -(2 ^ 64) < a) (h2 : a < 2 ^ 64) : dMul (.int a) (.int b) = some (.int (a * b)) := by rw [mul_int, if_pos (.inl ⟨h1, h2⟩)]
theorem mul_right {a b : Int} (h1 : -(2 ^ 64) < b) (h2 : b < 2 ^ 64) : dMul (.int a) (.int b) = some (.int (a * b)) := by rw [mul_int, if_pos (.inr ⟨h1, h2⟩)]
theorem mod_int {a b : Int} (h : 0 < b) : dMod (.int a) (.int b) = some (.int (a % b)) := by
  show (if 0 < b then some (D.int (a % b)) else none) = _
  rw [if_pos h]
theorem div_int {a b : Int} (h : 0 < b) (h2 : b < 1073741824) : dDiv (.int a) (.int b) = some (.int (a / b)) := by
  show (if CDiv a b then some (D.int (a / b)) else none) = _
  rw [if_pos ⟨h, h2⟩]
@[simp] theorem cmp_int (p : Int → Int → Bool) (a b : Int) : dCmp p (.int a) (.int b) = some (.bl (p a b)) := rfl
@[simp] theorem cat_lst (a b : List D) : dCat (.lst a) (.lst b) = if a.length + b.length ≤ sizeLine then some (.lst (a ++ b)) else none := rfl
@[simp] theorem is_non (neg : Bool) (x : D) : dIs neg x .non = some (.bl (if neg then !x.isNon else x.isNon)) := rfl
@[simp] theorem isNon_non : D.isNon .non = true := rfl
@[simp] theorem isNon_int (i : Int) : D.isNon (.int i) = false := rfl
@[simp] theorem isNon_lst (i : List D) : D.isNon (.lst i) = false := rfl
@[simp] theorem eqv_str (neg : Bool) (a b : Str) : dEqv neg (.str a) (.str b) = some (.bl (if neg then !decide (a = b) else decide (a = b))) := rfl
@[simp] theorem eqv_int (neg : Bool) (a b : Int) : dEqv neg (.int a) (.int b) = some (.bl (if neg then !decide (a = b) else decide (a = b))) := by
  have h1 : (SeqAt.shaped (PyData.int a) && SeqAt.shaped (PyData.int b)) = true := by rfl
  show (if (SeqAt.shaped (PyData.int a) && SeqAt.shaped (PyData.int b)) = true then some (D.bl (if neg then !PyData.eqv (.int a) (.int b) else PyData.eqv (.int a) (.int b))) else none) = _
  rw [if_pos h1]
  have : PyData.eqv (.int a) (.int b) = decide (a = b) := by simp [PyData.eqv]; rfl
  rw [this]
@[simp] theorem len_lst (xs : List D) : dLen [.lst xs] = some (.int xs.length) := rfl
@[simp] theorem len_dic (ks : List Key) (xs : List D) : dLen [.dic ks xs] = some (.int ks.length) := rfl
@[simp] theorem len_scr (xs : List D) : dLen [.scr xs] = some (.int xs.length) := rfl
@[simp] theorem len_tup (xs : List D) : dLen [.tup xs] = some (.int xs.length) := rfl
@[simp] theorem len_str (z : Str) : dLen [.str z] = if z.length ≤ sizeLine then some (.int z.length) else none := rfl
@[simp] theorem int_int (i : Int) : dInt [.int i] = some (.int i) := rfl
@[simp] theorem abs_int (i : Int) : dAbs [.int i] = some (.int (if i < 0 then -i else i)) := rfl
@[simp] theorem list_lst (xs : List D) : dList [.lst xs] = some (.lst xs) := rfl
@[simp] theorem tru_bl (b : Bool) : dTru (.bl b) = some b := rfl
@[simp] theorem walk_lst (xs : List D) : D.walk? (.lst xs) = some xs := rfl
@[simp] theorem walk_str (z : Str) : D.walk? (.str z) = some (signs z) := rfl
/-- whole numbers -/
abbrev dN (ns : List Nat) : List D := ns.map fun n => .int (n : Nat)
theorem flats_N (ns : List Nat) : flats (dN ns) = some (ns.map fun n => V.int ((n : Nat) : Int)) := by
  induction ns with
  | nil => rfl
  | cons n ns ih => simp [flats, D.flat?, ih]
theorem inV_N (n : Nat) (ns : List Nat) : inV (V.int n) (ns.map fun n => V.int ((n : Nat) : Int)) = decide (n ∈ ns) := by
  induction ns with
  | nil => simp [inV]
  | cons m ns ih =>
    unfold inV at *
    simp only [List.map_cons, List.any_cons, ih]
    have : eqV (V.int m) (V.int n) = decide (m = n) := by
      show decide ((m : Int) = (n : Int)) = _
      by_cases h : m = n
      · simp [h]
      · have : ¬ (m : Int) = n := by omega
        simp [h, this]
    rw [this]
    by_cases h : m = n
    · simp [h]
    · simp [h, Ne.symm h]
@[simp] theorem in_N (neg : Bool) (n : Nat) (ns : List Nat) : dIn neg (.int n) (.lst (dN ns)) = some (.bl (if neg then !decide (n ∈ ns) else decide (n ∈ ns))) := by
  have := inV_N n ns
  simp only [dIn, D.items?, Option.bind_some, flats_N, D.flat?, Option.map_some, this]
@[simp] theorem in_sign (neg : Bool) (c : Nat) (z : Str) : dIn neg (.str ⟨#[c]⟩) (.str z) = some (.bl (if neg then !decide (c ∈ z.cps.toList) else decide (c ∈ z.cps.toList))) := rfl
theorem ix_str_at {z : Str} {n : Nat} (hz : z.length ≤ sizeLine) (h : n < z.cps.toList.length) : dIx (.str z) (.int n) = some (.str ⟨#[z.cps.toList[n]]⟩) := by
  rw [ix_str, if_pos hz, atI_cast, List.getElem?_eq_getElem h]; rfl
@[simp] theorem ite_sp {p : Prop} [Decidable p] (a b : Bool) (e : En) : (if p then some (a, e) else some (b, e)) = some (if p then a else b, e) := by split <;> rfl
theorem W_ite {c : Prop} [Decidable c] {X Y : Prop} (hx : c → X) (hy : ¬c → Y) : if c then X else Y := by split <;> simp_all
theorem signs_at {z : Str} {i : Nat} {d : D} (h : (signs z)[i]? = some d) : ∃ c, d = .str ⟨#[c]⟩ ∧ z.cps.toList[i]? = some c := by
  unfold signs at h
  rw [List.getElem?_map] at h
  cases hc : z.cps.toList[i]? with
  | none => rw [hc] at h; cases h
  | some c => rw [hc] at h; cases h; exact ⟨c, rfl, rfl⟩
theorem len_cps (z : Str) : z.cps.toList.length = z.length := by simp [Str.length]
@[simp] theorem signs_len (z : Str) : (signs z).length = z.length := by unfold signs; rw [List.length_map, len_cps]
theorem len_app (a b : Str) : (a ++ b).length = a.length + b.length := by
  show (a.cps ++ b.cps).size = _
  rw [Array.size_append]; rfl
theorem lo62 : -((2 : Int) ^ 62) ≤ 0 := by decide
theorem hi62 : (10001 : Int) ≤ 2 ^ 62 := by decide
theorem r1_aux (c : Int → Prop) [inst : ∀ j, Decidable (c j)] (n : Int) (h : c n) (e : En) : ((some ([D.int n], e)).bind fun p => match p.1 with
  | [.int j] => if c j then some (rngD 0 j.toNat, p.2) else none
  | _ => none) = some (rngD 0 n.toNat, e) := by simp [h]
theorem r2_aux (c : Int → Int → Prop) [inst : ∀ i j, Decidable (c i j)] (k n : Int) (h : c k n) (e : En) : ((some ([D.int k, D.int n], e)).bind fun p => match p.1 with
  | [.int i, .int j] => if c i j then some (rngD i (j - i).toNat, p.2) else none
  | _ => none) = some (rngD k (n - k).toNat, e) := by simp [h]
theorem iR1_ok {a : En → Option (List D × En)} {env e : En} {n : Nat} (h : a env = some ([.int (n : Int)], e)) (hn : n ≤ 10000) : iR1 a env = some (rngD 0 n, e) := by
  have h1 : -((2 : Int) ^ 62) ≤ n := Int.le_trans lo62 (Int.natCast_nonneg n)
  have h2 : (n : Int) < 2 ^ 62 := Int.lt_of_lt_of_le (show (n : Int) < 10001 by omega) hi62
  unfold iR1; rw [h]
  have := r1_aux (fun j => -((2 : Int) ^ 62) ≤ j ∧ j < 2 ^ 62) n ⟨h1, h2⟩ e
  rw [Int.toNat_natCast] at this
  exact this
theorem iR2_ok {a : En → Option (List D × En)} {env e : En} {k n : Nat} (h : a env = some ([.int (k : Int), .int (n : Int)], e)) (hk : k ≤ 10000) (hn : n ≤ 10000) : iR2 a env = some (rngD k (n - k), e) := by
  have h1 : -((2 : Int) ^ 62) ≤ n := Int.le_trans lo62 (Int.natCast_nonneg n)
  have h2 : (n : Int) < 2 ^ 62 := Int.lt_of_lt_of_le (show (n : Int) < 10001 by omega) hi62
  have h3 : -((2 : Int) ^ 62) ≤ k := Int.le_trans lo62 (Int.natCast_nonneg k)
  have h4 : (k : Int) < 2 ^ 62 := Int.lt_of_lt_of_le (show (k : Int) < 10001 by omega) hi62
  have h5 : ((n : Int) - k).toNat = n - k := by omega
  unfold iR2; rw [h]
  have := r2_aux (fun i j => -((2 : Int) ^ 62) ≤ i ∧ i < 2 ^ 62 ∧ -((2 : Int) ^ 62) ≤ j ∧ j < 2 ^ 62) k n ⟨h3, h4, h1, h2⟩ e
  rw [h5] at this
  exact this
theorem inv (P : Nat → En → Prop) : ∃ P', P' = P := ⟨P, rfl⟩
theorem bind_some2 {α β : Type} (a : α) (f : α → Option β) : (some a).bind f = f a := by
  cases h : (some a).bind f with
  | none => rw [← h]; rfl
  | some b => rw [← h]; rfl
theorem szS {n : Nat} (h : n ≤ 10000) : n ≤ sizeLine := Nat.le_trans h sz10
theorem szL {n : Nat} (h : n < 10000) : n < sizeLine := Nat.lt_of_lt_of_le h sz10
theorem decT {p : Prop} [Decidable p] (h : p) : decide p = true := decide_eq_true h
theorem decF {p : Prop} [Decidable p] (h : ¬p) : decide p = false := decide_eq_false h
@[simp] theorem ag_imm (env : En) (n : Nat) (d : D) : (Ag.imm d).slot env n = some (.imm d) := rfl
@[simp] theorem slots_nil (env : En) (n : Nat) : slotsOf env n [] = some [] := rfl
@[simp] theorem slots_cons (env : En) (n : Nat) (a : Ag) (as : List Ag) : slotsOf env n (a :: as) = (a.slot env n).bind fun s => (slotsOf env (n + (if a.ioOf.isSome then 1 else 0)) as).map fun r => s :: r := rfl
@[simp] theorem ag_bor (env : En) (n i : Nat) : (Ag.bor i).slot env n = (match env[i]? with
    | some (.imm d) => some (.imm d)
    | some s => s.rd.map .bor
    | none => none) := rfl
@[simp] theorem ag_io (env : En) (n i : Nat) : (Ag.io i).slot env n = (env[i]?.bind Sl.own?).map fun d => .io n d := rfl
@[simp] theorem io_imm (d : D) : (Ag.imm d).ioOf = none := rfl
@[simp] theorem io_bor (i : Nat) : (Ag.bor i).ioOf = none := rfl
@[simp] theorem io_io (i : Nat) : (Ag.io i).ioOf = some i := rfl
end Q
namespace Law
open PySem L2 Q
def top (i : Nat) : Stmt := PySem.Challenge.pw_clearfloor_k09_links_change_along_a_path.main.body.getD i (.Pass ⟨0, 0, 0, 0⟩)
structure Txt (c : Pc) : Prop where
  b_abs : c.mg "abs" = none
  b_dict : c.mg "dict" = none
  b_int : c.mg "int" = none
  b_isinstance : c.mg "isinstance" = none
  b_len : c.mg "len" = none
  b_list : c.mg "list" = none
  b_range : c.mg "range" = none
  b_set : c.mg "set" = none
  b_sorted : c.mg "sorted" = none
  b_zip : c.mg "zip" = none
  f_Floor_depot : ∀ C, c.cl "Floor" = some C → Cls c.K C ∧ NoAttr c.K C "depot"
  f_Floor_doors : ∀ C, c.cl "Floor" = some C → Cls c.K C ∧ NoAttr c.K C "doors"
  f_Floor_near : ∀ C, c.cl "Floor" = some C → Cls c.K C ∧ NoAttr c.K C "near"
  f_Floor_places : ∀ C, c.cl "Floor" = some C → Cls c.K C ∧ NoAttr c.K C "places"
  f_Floor_size : ∀ C, c.cl "Floor" = some C → Cls c.K C ∧ NoAttr c.K C "size"
  f_Floor_stations : ∀ C, c.cl "Floor" = some C → Cls c.K C ∧ NoAttr c.K C "stations"
/-! _law_draw -/
abbrev s_law_draw : Stmt := top 17
abbrev n_law_draw : List Str := ["box", "many", "at"]
theorem sc_law_draw : FnScope n_law_draw ["box", "many"] (defScope s_law_draw) := ⟨rfl, rfl, rfl, by decide +kernel, rfl, by decide +kernel, by decide +kernel⟩
def m_law_draw : MS :=
    (mSeq (mAsg 2 (mBin dIx (lVar 0) (lFix (mC (.int 1)))))
    (mSeq (mSetI 0 (mBin dAdd (lVar 2) (lFix (mC (.int 1)))) (mC (.int 1)))
    (mSeq (mIfS (mTest (mBin dLt (lVar 2) (lFix (mBi dLen (bCons (lFix (mBin dIx (lVar 0) (lFix (mC (.int 0))))) bNil)))))
    (mRet (mBin dMod (lFix (mBi dInt (bCons (lFix (mBin dIx (lFix (mBin dIx (lVar 0) (lFix (mC (.int 0))))) (lVar 2))) bNil))) (lVar 1)))
    mNext)
    (mRet (mC (.int 0))))))
theorem b_law_draw {c : Pc} (T : Txt c) : BV (c.z 0 n_law_draw (defScope s_law_draw)) (defBody s_law_draw) m_law_draw :=
    (bv_cons (sv_asg (i := 2) rfl (by first | exact Or.inr rfl | exact Or.inl ⟨rfl, Or.inl rfl⟩ | exact Or.inl ⟨rfl, Or.inr rfl⟩) (ev_ix (lv_var (i := 0) rfl (by first | exact Or.inl rfl | exact Or.inr (Or.inl rfl) | exact Or.inr (Or.inr rfl))) (lv_ev ev_int)))
    (bv_cons (sv_setI (i := 0) rfl (by first | exact Or.inl rfl | exact Or.inr (Or.inl rfl) | exact Or.inr (Or.inr rfl)) (ev_op (fun _ _ => or_add) ok_add (lv_var (i := 2) rfl (by first | exact Or.inl rfl | exact Or.inr (Or.inl rfl) | exact Or.inr (Or.inr rfl))) (lv_ev ev_int)) ev_int)
    (bv_cons (sv_if (tv_cmp (fun _ _ => op_lt) ok_cmp (lv_var (i := 2) rfl (by first | exact Or.inl rfl | exact Or.inr (Or.inl rfl) | exact Or.inr (Or.inr rfl))) (lv_ev (ev_callB (fun _ h => cr_len h) ok_len (by rfl) T.b_len (by decide +kernel) (al_cons (lv_ev (ev_ix (lv_var (i := 0) rfl (by first | exact Or.inl rfl | exact Or.inr (Or.inl rfl) | exact Or.inr (Or.inr rfl))) (lv_ev ev_int))) al_nil))) (nomark _))
    (bv_one (sv_ret (ev_op (fun _ _ => op_mod) ok_mod (lv_ev (ev_callT (fun _ _ => cr_int) ok_int (by rfl) T.b_int (by decide +kernel) (al_cons (lv_ev (ev_ix (lv_ev (ev_ix (lv_var (i := 0) rfl (by first | exact Or.inl rfl | exact Or.inr (Or.inl rfl) | exact Or.inr (Or.inr rfl))) (lv_ev ev_int))) (lv_var (i := 2) rfl (by first | exact Or.inl rfl | exact Or.inr (Or.inl rfl) | exact Or.inr (Or.inr rfl))))) al_nil))) (lv_var (i := 1) rfl (by first | exact Or.inl rfl | exact Or.inr (Or.inl rfl) | exact Or.inr (Or.inr rfl))))))
    bv_nil)
    (bv_one (sv_ret ev_int)))))
theorem g_law_draw {c : Pc} {f : Addr} {fd : FuncData} (T : Txt c) (F : Fun c.K "_law_draw" "_law_draw" s_law_draw f fd) (hm : c.mg "_law_draw" = some (.ref f)) : FnC c 1 "_law_draw" n_law_draw 2 m_law_draw :=
  ⟨f, fd, ["box", "many"], fn_ok F sc_law_draw (b_law_draw T), hm, F.kp, F.binds (ps := ["box", "many"]) fun _ _ _ _ _ _ us hl => match us, hl with | [_, _], _ => rfl⟩
/-! _law_used -/
abbrev s_law_used : Stmt := top 19
abbrev n_law_used : List Str := ["rows", "used", "k", "row"]
theorem sc_law_used : FnScope n_law_used ["rows"] (defScope s_law_used) := ⟨rfl, rfl, rfl, by decide +kernel, rfl, by decide +kernel, by decide +kernel⟩
def m_law_used : MS :=
    (mSeq (mAsgF 1 (mLst aNil))
    (mSeq (mForS (iR1 (aCons (mC (.int 3)) aNil)) (gN 2)
    (mForS (iAny (mVar 0)) (gN 3)
    (mIfS (mAnd (mTest (mBin (dIn true) (lVar 2) (lVar 1))) (mOr (mTest (mBin (dIn false) (lFix (mBin dIx (lFix (mC (.str "ABCD"))) (lVar 2))) (lVar 3))) (mTest (mBin (dIn false) (lFix (mBin dIx (lFix (mC (.str "abc"))) (lVar 2))) (lVar 3)))))
    (mApp 1 (mVar 2))
    mNext)))
    (mRetO 1)))
theorem b_law_used {c : Pc} (T : Txt c) : BV (c.z 0 n_law_used (defScope s_law_used)) (defBody s_law_used) m_law_used :=
    (bv_cons (sv_asgF (i := 1) rfl (by first | exact Or.inr rfl | exact Or.inl ⟨rfl, Or.inl rfl⟩ | exact Or.inl ⟨rfl, Or.inr rfl⟩) (ef_lst ae_nil))
    (bv_cons (sv_for (iv_rng1 (by rfl) T.b_range (ae_cons ev_int ae_nil)) (gv_name (i := 2) rfl (by first | exact Or.inr rfl | exact Or.inl ⟨rfl, Or.inl rfl⟩ | exact Or.inl ⟨rfl, Or.inr rfl⟩))
    (bv_one (sv_for (iv_any (ev_var (i := 0) rfl (by first | exact Or.inl rfl | exact Or.inr (Or.inl rfl) | exact Or.inr (Or.inr rfl)))) (gv_name (i := 3) rfl (by first | exact Or.inr rfl | exact Or.inl ⟨rfl, Or.inl rfl⟩ | exact Or.inl ⟨rfl, Or.inr rfl⟩))
    (bv_one (sv_if ((wv_and (tv_cmp (fun _ h => or_nin h) ok_nin (lv_var (i := 2) rfl (by first | exact Or.inl rfl | exact Or.inr (Or.inl rfl) | exact Or.inr (Or.inr rfl))) (lv_var (i := 1) rfl (by first | exact Or.inl rfl | exact Or.inr (Or.inl rfl) | exact Or.inr (Or.inr rfl))) (by rfl)) (wv_and1 ((wv_or (tv_cmp (fun _ h => or_in h) ok_in (lv_ev (ev_ix (lv_ev ev_str) (lv_var (i := 2) rfl (by first | exact Or.inl rfl | exact Or.inr (Or.inl rfl) | exact Or.inr (Or.inr rfl))))) (lv_var (i := 3) rfl (by first | exact Or.inl rfl | exact Or.inr (Or.inl rfl) | exact Or.inr (Or.inr rfl))) (by rfl)) (wv_or1 (tv_cmp (fun _ h => or_in h) ok_in (lv_ev (ev_ix (lv_ev ev_str) (lv_var (i := 2) rfl (by first | exact Or.inl rfl | exact Or.inr (Or.inl rfl) | exact Or.inr (Or.inr rfl))))) (lv_var (i := 3) rfl (by first | exact Or.inl rfl | exact Or.inr (Or.inl rfl) | exact Or.inr (Or.inr rfl))) (by rfl))))).tv))).tv
    (bv_one (sv_append (i := 1) rfl (by first | exact Or.inl rfl | exact Or.inr (Or.inl rfl) | exact Or.inr (Or.inr rfl)) (ev_var (i := 2) rfl (by first | exact Or.inl rfl | exact Or.inr (Or.inl rfl) | exact Or.inr (Or.inr rfl)))))
    bv_nil)))))
    (bv_one (sv_retO (i := 1) rfl (by first | exact Or.inl rfl | exact Or.inr (Or.inl rfl) | exact Or.inr (Or.inr rfl))))))
theorem g_law_used {c : Pc} {f : Addr} {fd : FuncData} (T : Txt c) (F : Fun c.K "_law_used" "_law_used" s_law_used f fd) (hm : c.mg "_law_used" = some (.ref f)) : FnC c 1 "_law_used" n_law_used 1 m_law_used :=
  ⟨f, fd, ["rows"], fn_ok F sc_law_used (b_law_used T), hm, F.kp, F.binds (ps := ["rows"]) fun _ _ _ _ _ _ us hl => match us, hl with | [_], _ => rfl⟩
/-! _law_renamed -/
abbrev s_law_renamed : Stmt := top 20
abbrev n_law_renamed : List Str := ["row", "used", "new", "sign", "tile", "at"]
theorem sc_law_renamed : FnScope n_law_renamed ["row", "used"] (defScope s_law_renamed) := ⟨rfl, rfl, rfl, by decide +kernel, rfl, by decide +kernel, by decide +kernel⟩
def m_law_renamed : MS :=
    (mSeq (mAsg 2 (mC (.str "")))
    (mSeq (mForS (iAny (mVar 0)) (gN 3)
    (mSeq (mAsg 4 (mVar 3))
    (mSeq (mForS (iR1 (aCons (mBi dLen (bCons (lVar 1) bNil)) aNil)) (gN 5)
    (mSeq (mIfS (mTest (mBin (dEqv false) (lVar 3) (lFix (mBin dIx (lFix (mC (.str "ABCD"))) (lFix (mBin dIx (lVar 1) (lVar 5)))))))
    (mAsg 4 (mBin dIx (lFix (mC (.str "ABCD"))) (lVar 5)))
    mNext)
    (mIfS (mTest (mBin (dEqv false) (lVar 3) (lFix (mBin dIx (lFix (mC (.str "abc"))) (lFix (mBin dIx (lVar 1) (lVar 5)))))))
    (mAsg 4 (mBin dIx (lFix (mC (.str "abc"))) (lVar 5)))
    mNext)))
    (mAsg 2 (mBin dAdd (lVar 2) (lVar 4))))))
    (mRet (mVar 2))))
theorem b_law_renamed {c : Pc} (T : Txt c) : BV (c.z 0 n_law_renamed (defScope s_law_renamed)) (defBody s_law_renamed) m_law_renamed :=
    (bv_cons (sv_asg (i := 2) rfl (by first | exact Or.inr rfl | exact Or.inl ⟨rfl, Or.inl rfl⟩ | exact Or.inl ⟨rfl, Or.inr rfl⟩) ev_str)
    (bv_cons (sv_for (iv_any (ev_var (i := 0) rfl (by first | exact Or.inl rfl | exact Or.inr (Or.inl rfl) | exact Or.inr (Or.inr rfl)))) (gv_name (i := 3) rfl (by first | exact Or.inr rfl | exact Or.inl ⟨rfl, Or.inl rfl⟩ | exact Or.inl ⟨rfl, Or.inr rfl⟩))
    (bv_cons (sv_asg (i := 4) rfl (by first | exact Or.inr rfl | exact Or.inl ⟨rfl, Or.inl rfl⟩ | exact Or.inl ⟨rfl, Or.inr rfl⟩) (ev_var (i := 3) rfl (by first | exact Or.inl rfl | exact Or.inr (Or.inl rfl) | exact Or.inr (Or.inr rfl))))
    (bv_cons (sv_for (iv_rng1 (by rfl) T.b_range (ae_cons (ev_callB (fun _ h => cr_len h) ok_len (by rfl) T.b_len (by decide +kernel) (al_cons (lv_var (i := 1) rfl (by first | exact Or.inl rfl | exact Or.inr (Or.inl rfl) | exact Or.inr (Or.inr rfl))) al_nil)) ae_nil)) (gv_name (i := 5) rfl (by first | exact Or.inr rfl | exact Or.inl ⟨rfl, Or.inl rfl⟩ | exact Or.inl ⟨rfl, Or.inr rfl⟩))
    (bv_cons (sv_if (tv_cmp (fun _ h => or_eq h) ok_eq (lv_var (i := 3) rfl (by first | exact Or.inl rfl | exact Or.inr (Or.inl rfl) | exact Or.inr (Or.inr rfl))) (lv_ev (ev_ix (lv_ev ev_str) (lv_ev (ev_ix (lv_var (i := 1) rfl (by first | exact Or.inl rfl | exact Or.inr (Or.inl rfl) | exact Or.inr (Or.inr rfl))) (lv_var (i := 5) rfl (by first | exact Or.inl rfl | exact Or.inr (Or.inl rfl) | exact Or.inr (Or.inr rfl))))))) (nomark _))
    (bv_one (sv_asg (i := 4) rfl (by first | exact Or.inr rfl | exact Or.inl ⟨rfl, Or.inl rfl⟩ | exact Or.inl ⟨rfl, Or.inr rfl⟩) (ev_ix (lv_ev ev_str) (lv_var (i := 5) rfl (by first | exact Or.inl rfl | exact Or.inr (Or.inl rfl) | exact Or.inr (Or.inr rfl))))))
    bv_nil)
    (bv_one (sv_if (tv_cmp (fun _ h => or_eq h) ok_eq (lv_var (i := 3) rfl (by first | exact Or.inl rfl | exact Or.inr (Or.inl rfl) | exact Or.inr (Or.inr rfl))) (lv_ev (ev_ix (lv_ev ev_str) (lv_ev (ev_ix (lv_var (i := 1) rfl (by first | exact Or.inl rfl | exact Or.inr (Or.inl rfl) | exact Or.inr (Or.inr rfl))) (lv_var (i := 5) rfl (by first | exact Or.inl rfl | exact Or.inr (Or.inl rfl) | exact Or.inr (Or.inr rfl))))))) (nomark _))
    (bv_one (sv_asg (i := 4) rfl (by first | exact Or.inr rfl | exact Or.inl ⟨rfl, Or.inl rfl⟩ | exact Or.inl ⟨rfl, Or.inr rfl⟩) (ev_ix (lv_ev ev_str) (lv_var (i := 5) rfl (by first | exact Or.inl rfl | exact Or.inr (Or.inl rfl) | exact Or.inr (Or.inr rfl))))))
    bv_nil))))
    (bv_one (sv_asg (i := 2) rfl (by first | exact Or.inr rfl | exact Or.inl ⟨rfl, Or.inl rfl⟩ | exact Or.inl ⟨rfl, Or.inr rfl⟩) (ev_op (fun _ _ => or_add) ok_add (lv_var (i := 2) rfl (by first | exact Or.inl rfl | exact Or.inr (Or.inl rfl) | exact Or.inr (Or.inr rfl))) (lv_var (i := 4) rfl (by first | exact Or.inl rfl | exact Or.inr (Or.inl rfl) | exact Or.inr (Or.inr rfl)))))))))
    (bv_one (sv_ret (ev_var (i := 2) rfl (by first | exact Or.inl rfl | exact Or.inr (Or.inl rfl) | exact Or.inr (Or.inr rfl)))))))
theorem g_law_renamed {c : Pc} {f : Addr} {fd : FuncData} (T : Txt c) (F : Fun c.K "_law_renamed" "_law_renamed" s_law_renamed f fd) (hm : c.mg "_law_renamed" = some (.ref f)) : FnC c 1 "_law_renamed" n_law_renamed 2 m_law_renamed :=
  ⟨f, fd, ["row", "used"], fn_ok F sc_law_renamed (b_law_renamed T), hm, F.kp, F.binds (ps := ["row", "used"]) fun _ _ _ _ _ _ us hl => match us, hl with | [_, _], _ => rfl⟩
/-! _law_has_door -/
abbrev s_law_has_door : Stmt := top 21
abbrev n_law_has_door : List Str := ["rows", "row", "sign"]
theorem sc_law_has_door : FnScope n_law_has_door ["rows"] (defScope s_law_has_door) := ⟨rfl, rfl, rfl, by decide +kernel, rfl, by decide +kernel, by decide +kernel⟩
def m_law_has_door : MS :=
    (mSeq (mForS (iAny (mVar 0)) (gN 1)
    (mForS (iAny (mVar 1)) (gN 2)
    (mIfS (mTest (mBin (dIn false) (lVar 2) (lFix (mC (.str "+abc")))))
    (mRet (mC (.bl true)))
    mNext)))
    (mRet (mC (.bl false))))
theorem b_law_has_door {c : Pc} (T : Txt c) : BV (c.z 0 n_law_has_door (defScope s_law_has_door)) (defBody s_law_has_door) m_law_has_door :=
    (bv_cons (sv_for (iv_any (ev_var (i := 0) rfl (by first | exact Or.inl rfl | exact Or.inr (Or.inl rfl) | exact Or.inr (Or.inr rfl)))) (gv_name (i := 1) rfl (by first | exact Or.inr rfl | exact Or.inl ⟨rfl, Or.inl rfl⟩ | exact Or.inl ⟨rfl, Or.inr rfl⟩))
    (bv_one (sv_for (iv_any (ev_var (i := 1) rfl (by first | exact Or.inl rfl | exact Or.inr (Or.inl rfl) | exact Or.inr (Or.inr rfl)))) (gv_name (i := 2) rfl (by first | exact Or.inr rfl | exact Or.inl ⟨rfl, Or.inl rfl⟩ | exact Or.inl ⟨rfl, Or.inr rfl⟩))
    (bv_one (sv_if (tv_cmp (fun _ h => or_in h) ok_in (lv_var (i := 2) rfl (by first | exact Or.inl rfl | exact Or.inr (Or.inl rfl) | exact Or.inr (Or.inr rfl))) (lv_ev ev_str) (by rfl))
    (bv_one (sv_ret ev_bl))
    bv_nil)))))
    (bv_one (sv_ret ev_bl)))
theorem g_law_has_door {c : Pc} {f : Addr} {fd : FuncData} (T : Txt c) (F : Fun c.K "_law_has_door" "_law_has_door" s_law_has_door f fd) (hm : c.mg "_law_has_door" = some (.ref f)) : FnC c 1 "_law_has_door" n_law_has_door 1 m_law_has_door :=
  ⟨f, fd, ["rows"], fn_ok F sc_law_has_door (b_law_has_door T), hm, F.kp, F.binds (ps := ["rows"]) fun _ _ _ _ _ _ us hl => match us, hl with | [_], _ => rfl⟩
/-! _law_with_door -/
abbrev s_law_with_door : Stmt := top 22
abbrev n_law_with_door : List Str := ["rows", "first", "tile", "k"]
theorem sc_law_with_door : FnScope n_law_with_door ["rows"] (defScope s_law_with_door) := ⟨rfl, rfl, rfl, by decide +kernel, rfl, by decide +kernel, by decide +kernel⟩
def m_law_with_door : MS :=
    (mSeq (mAsg 1 (mBin dIx (lFix (mBin dIx (lVar 0) (lFix (mC (.int 0))))) (lFix (mC (.int 0)))))
    (mSeq (mAsg 2 (mC (.str "+")))
    (mSeq (mForS (iR1 (aCons (mC (.int 3)) aNil)) (gN 3)
    (mIfS (mTest (mBin (dEqv false) (lVar 1) (lFix (mBin dIx (lFix (mC (.str "ABCD"))) (lVar 3)))))
    (mAsg 2 (mBin dIx (lFix (mC (.str "abc"))) (lVar 3)))
    mNext))
    (mRetF (mBin dCat (lFix (mLst (aCons (mBin dAdd (lVar 2) (lFix (mSl dSlS (lFix (mBin dIx (lVar 0) (lFix (mC (.int 0))))) (oSome (mC (.int 1))) oNone))) aNil))) (lFix (mSl dSlL (lVar 0) (oSome (mC (.int 1))) oNone)))))))
theorem b_law_with_door {c : Pc} (T : Txt c) : BV (c.z 0 n_law_with_door (defScope s_law_with_door)) (defBody s_law_with_door) m_law_with_door :=
    (bv_cons (sv_asg (i := 1) rfl (by first | exact Or.inr rfl | exact Or.inl ⟨rfl, Or.inl rfl⟩ | exact Or.inl ⟨rfl, Or.inr rfl⟩) (ev_ix (lv_ev (ev_ix (lv_var (i := 0) rfl (by first | exact Or.inl rfl | exact Or.inr (Or.inl rfl) | exact Or.inr (Or.inr rfl))) (lv_ev ev_int))) (lv_ev ev_int)))
    (bv_cons (sv_asg (i := 2) rfl (by first | exact Or.inr rfl | exact Or.inl ⟨rfl, Or.inl rfl⟩ | exact Or.inl ⟨rfl, Or.inr rfl⟩) ev_str)
    (bv_cons (sv_for (iv_rng1 (by rfl) T.b_range (ae_cons ev_int ae_nil)) (gv_name (i := 3) rfl (by first | exact Or.inr rfl | exact Or.inl ⟨rfl, Or.inl rfl⟩ | exact Or.inl ⟨rfl, Or.inr rfl⟩))
    (bv_one (sv_if (tv_cmp (fun _ h => or_eq h) ok_eq (lv_var (i := 1) rfl (by first | exact Or.inl rfl | exact Or.inr (Or.inl rfl) | exact Or.inr (Or.inr rfl))) (lv_ev (ev_ix (lv_ev ev_str) (lv_var (i := 3) rfl (by first | exact Or.inl rfl | exact Or.inr (Or.inl rfl) | exact Or.inr (Or.inr rfl))))) (nomark _))
    (bv_one (sv_asg (i := 2) rfl (by first | exact Or.inr rfl | exact Or.inl ⟨rfl, Or.inl rfl⟩ | exact Or.inl ⟨rfl, Or.inr rfl⟩) (ev_ix (lv_ev ev_str) (lv_var (i := 3) rfl (by first | exact Or.inl rfl | exact Or.inr (Or.inl rfl) | exact Or.inr (Or.inr rfl))))))
    bv_nil)))
    (bv_one (sv_retF (ef_op (fun _ _ => op_cat) ok_cat (lv_ev (ef_lst (ae_cons (ev_op (fun _ _ => or_add) ok_add (lv_var (i := 2) rfl (by first | exact Or.inl rfl | exact Or.inr (Or.inl rfl) | exact Or.inr (Or.inr rfl))) (lv_ev (ev_slS (lv_ev (ev_ix (lv_var (i := 0) rfl (by first | exact Or.inl rfl | exact Or.inr (Or.inl rfl) | exact Or.inr (Or.inr rfl))) (lv_ev ev_int))) (ov_some ev_int) ov_none))) ae_nil)).ev) (lv_ev (ef_slL (lv_var (i := 0) rfl (by first | exact Or.inl rfl | exact Or.inr (Or.inl rfl) | exact Or.inr (Or.inr rfl))) (ov_some ev_int) ov_none).ev)))))))
theorem g_law_with_door {c : Pc} {f : Addr} {fd : FuncData} (T : Txt c) (F : Fun c.K "_law_with_door" "_law_with_door" s_law_with_door f fd) (hm : c.mg "_law_with_door" = some (.ref f)) : FnC c 1 "_law_with_door" n_law_with_door 1 m_law_with_door :=
  ⟨f, fd, ["rows"], fn_ok F sc_law_with_door (b_law_with_door T), hm, F.kp, F.binds (ps := ["rows"]) fun _ _ _ _ _ _ us hl => match us, hl with | [_], _ => rfl⟩
/-! _law_tile -/
abbrev s_law_tile : Stmt := top 18
abbrev n_law_tile : List Str := ["box", "walls", "many", "kind"]
theorem sc_law_tile : FnScope n_law_tile ["box", "walls", "many"] (defScope s_law_tile) := ⟨rfl, rfl, rfl, by decide +kernel, rfl, by decide +kernel, by decide +kernel⟩
def m_law_tile : MS :=
    (mSeq (mAsg 3 (mCallV n_law_draw 2 m_law_draw (cIo 0 (cImm (mC (.int 12)) cNil))))
    (mSeq (mIfS (mTest (mBin dLt (lVar 3) (lVar 1)))
    (mRet (mC (.str "#")))
    mNext)
    (mSeq (mIfS (mAnd (mTest (mBin dGt (lVar 3) (lFix (mC (.int 10))))) (mTest (mBin dGt (lVar 2) (lFix (mC (.int 0))))))
    (mRet (mBin dIx (lFix (mC (.str "abc"))) (lFix (mCallV n_law_draw 2 m_law_draw (cIo 0 (cImm (mVar 2) cNil))))))
    mNext)
    (mSeq (mIfS (mAnd (mTest (mBin dGt (lVar 3) (lFix (mC (.int 8))))) (mTest (mBin dGt (lVar 2) (lFix (mC (.int 0))))))
    (mRet (mBin dIx (lFix (mC (.str "ABCD"))) (lFix (mCallV n_law_draw 2 m_law_draw (cIo 0 (cImm (mVar 2) cNil))))))
    mNext)
    (mSeq (mIfS (mTest (mBin dGt (lVar 3) (lFix (mC (.int 7)))))
    (mRet (mC (.str "+")))
    mNext)
    (mRet (mC (.str "."))))))))
theorem b_law_tile {c : Pc} (T : Txt c) (G_law_draw : FnC c 1 "_law_draw" n_law_draw 2 m_law_draw) : BV (c.z 1 n_law_tile (defScope s_law_tile)) (defBody s_law_tile) m_law_tile :=
    (bv_cons (sv_asg (i := 3) rfl (by first | exact Or.inr rfl | exact Or.inl ⟨rfl, Or.inl rfl⟩ | exact Or.inl ⟨rfl, Or.inr rfl⟩) (ev_call (G_law_draw.z (by decide)) (by rfl) (av_io (i := 0) rfl (by first | exact Or.inl rfl | exact Or.inr (Or.inl rfl) | exact Or.inr (Or.inr rfl)) (av_imm ev_int av_nil))))
    (bv_cons (sv_if (tv_cmp (fun _ _ => op_lt) ok_cmp (lv_var (i := 3) rfl (by first | exact Or.inl rfl | exact Or.inr (Or.inl rfl) | exact Or.inr (Or.inr rfl))) (lv_var (i := 1) rfl (by first | exact Or.inl rfl | exact Or.inr (Or.inl rfl) | exact Or.inr (Or.inr rfl))) (nomark _))
    (bv_one (sv_ret ev_str))
    bv_nil)
    (bv_cons (sv_if ((wv_and (tv_cmp (fun _ _ => op_gt) ok_cmp (lv_var (i := 3) rfl (by first | exact Or.inl rfl | exact Or.inr (Or.inl rfl) | exact Or.inr (Or.inr rfl))) (lv_ev ev_int) (nomark _)) (wv_and1 (tv_cmp (fun _ _ => op_gt) ok_cmp (lv_var (i := 2) rfl (by first | exact Or.inl rfl | exact Or.inr (Or.inl rfl) | exact Or.inr (Or.inr rfl))) (lv_ev ev_int) (nomark _))))).tv
    (bv_one (sv_ret (ev_ix (lv_ev ev_str) (lv_ev (ev_call (G_law_draw.z (by decide)) (by rfl) (av_io (i := 0) rfl (by first | exact Or.inl rfl | exact Or.inr (Or.inl rfl) | exact Or.inr (Or.inr rfl)) (av_imm (ev_var (i := 2) rfl (by first | exact Or.inl rfl | exact Or.inr (Or.inl rfl) | exact Or.inr (Or.inr rfl))) av_nil)))))))
    bv_nil)
    (bv_cons (sv_if ((wv_and (tv_cmp (fun _ _ => op_gt) ok_cmp (lv_var (i := 3) rfl (by first | exact Or.inl rfl | exact Or.inr (Or.inl rfl) | exact Or.inr (Or.inr rfl))) (lv_ev ev_int) (nomark _)) (wv_and1 (tv_cmp (fun _ _ => op_gt) ok_cmp (lv_var (i := 2) rfl (by first | exact Or.inl rfl | exact Or.inr (Or.inl rfl) | exact Or.inr (Or.inr rfl))) (lv_ev ev_int) (nomark _))))).tv
    (bv_one (sv_ret (ev_ix (lv_ev ev_str) (lv_ev (ev_call (G_law_draw.z (by decide)) (by rfl) (av_io (i := 0) rfl (by first | exact Or.inl rfl | exact Or.inr (Or.inl rfl) | exact Or.inr (Or.inr rfl)) (av_imm (ev_var (i := 2) rfl (by first | exact Or.inl rfl | exact Or.inr (Or.inl rfl) | exact Or.inr (Or.inr rfl))) av_nil)))))))
    bv_nil)
    (bv_cons (sv_if (tv_cmp (fun _ _ => op_gt) ok_cmp (lv_var (i := 3) rfl (by first | exact Or.inl rfl | exact Or.inr (Or.inl rfl) | exact Or.inr (Or.inr rfl))) (lv_ev ev_int) (nomark _))
    (bv_one (sv_ret ev_str))
    bv_nil)
    (bv_one (sv_ret ev_str)))))))
theorem g_law_tile {c : Pc} {f : Addr} {fd : FuncData} (T : Txt c) (F : Fun c.K "_law_tile" "_law_tile" s_law_tile f fd) (hm : c.mg "_law_tile" = some (.ref f)) (G_law_draw : FnC c 1 "_law_draw" n_law_draw 2 m_law_draw) : FnC c 2 "_law_tile" n_law_tile 3 m_law_tile :=
  ⟨f, fd, ["box", "walls", "many"], fn_ok F sc_law_tile (b_law_tile T G_law_draw), hm, F.kp, F.binds (ps := ["box", "walls", "many"]) fun _ _ _ _ _ _ us hl => match us, hl with | [_, _, _], _ => rfl⟩
/-! _law_rows -/
abbrev s_law_rows : Stmt := top 23
abbrev n_law_rows : List Str := ["box", "high", "wide", "walls", "many", "rows", "k", "row", "at", "used"]
theorem sc_law_rows : FnScope n_law_rows ["box"] (defScope s_law_rows) := ⟨rfl, rfl, rfl, by decide +kernel, rfl, by decide +kernel, by decide +kernel⟩
def m_law_rows : MS :=
    (mSeq (mAsg 1 (mBin dAdd (lFix (mC (.int 1))) (lFix (mCallV n_law_draw 2 m_law_draw (cIo 0 (cImm (mC (.int 5)) cNil))))))
    (mSeq (mAsg 2 (mBin dAdd (lFix (mC (.int 1))) (lFix (mCallV n_law_draw 2 m_law_draw (cIo 0 (cImm (mC (.int 6)) cNil))))))
    (mSeq (mAsg 3 (mBin dMul (lFix (mC (.int 2))) (lFix (mCallV n_law_draw 2 m_law_draw (cIo 0 (cImm (mC (.int 3)) cNil))))))
    (mSeq (mAsg 4 (mCallV n_law_draw 2 m_law_draw (cIo 0 (cImm (mC (.int 4)) cNil))))
    (mSeq (mAsgF 5 (mLst aNil))
    (mSeq (mForS (iR1 (aCons (mVar 1) aNil)) (gN 6)
    (mSeq (mAsg 7 (mC (.str "")))
    (mSeq (mForS (iR1 (aCons (mVar 2) aNil)) (gN 8)
    (mAsg 7 (mBin dAdd (lVar 7) (lFix (mCallV n_law_tile 3 m_law_tile (cIo 0 (cImm (mVar 3) (cImm (mVar 4) cNil))))))))
    (mApp 5 (mVar 7)))))
    (mSeq (mAsg 9 (mCallV n_law_used 1 m_law_used (cImm (mVar 5) cNil)))
    (mSeq (mAsgF 5 (mLc [7] (iAny (mVar 5)) (gN 7) mYes (mCallV n_law_renamed 2 m_law_renamed (cImm (mVar 7) (cBor 9 cNil)))))
    (mSeq (mIfS (mNot (mTru (lFix (mCallV n_law_has_door 1 m_law_has_door (cImm (mVar 5) cNil)))))
    (mAsgF 5 (mCallF n_law_with_door 1 m_law_with_door (cBor 5 cNil)))
    mNext)
    (mRetO 5))))))))))
theorem b_law_rows {c : Pc} (T : Txt c) (G_law_draw : FnC c 1 "_law_draw" n_law_draw 2 m_law_draw) (G_law_tile : FnC c 2 "_law_tile" n_law_tile 3 m_law_tile) (G_law_used : FnC c 1 "_law_used" n_law_used 1 m_law_used) (G_law_renamed : FnC c 1 "_law_renamed" n_law_renamed 2 m_law_renamed) (G_law_has_door : FnC c 1 "_law_has_door" n_law_has_door 1 m_law_has_door) (G_law_with_door : FnC c 1 "_law_with_door" n_law_with_door 1 m_law_with_door) : BV (c.z 2 n_law_rows (defScope s_law_rows)) (defBody s_law_rows) m_law_rows :=
    (bv_cons (sv_asg (i := 1) rfl (by first | exact Or.inr rfl | exact Or.inl ⟨rfl, Or.inl rfl⟩ | exact Or.inl ⟨rfl, Or.inr rfl⟩) (ev_op (fun _ _ => or_add) ok_add (lv_ev ev_int) (lv_ev (ev_call (G_law_draw.z (by decide)) (by rfl) (av_io (i := 0) rfl (by first | exact Or.inl rfl | exact Or.inr (Or.inl rfl) | exact Or.inr (Or.inr rfl)) (av_imm ev_int av_nil))))))
    (bv_cons (sv_asg (i := 2) rfl (by first | exact Or.inr rfl | exact Or.inl ⟨rfl, Or.inl rfl⟩ | exact Or.inl ⟨rfl, Or.inr rfl⟩) (ev_op (fun _ _ => or_add) ok_add (lv_ev ev_int) (lv_ev (ev_call (G_law_draw.z (by decide)) (by rfl) (av_io (i := 0) rfl (by first | exact Or.inl rfl | exact Or.inr (Or.inl rfl) | exact Or.inr (Or.inr rfl)) (av_imm ev_int av_nil))))))
    (bv_cons (sv_asg (i := 3) rfl (by first | exact Or.inr rfl | exact Or.inl ⟨rfl, Or.inl rfl⟩ | exact Or.inl ⟨rfl, Or.inr rfl⟩) (ev_op (fun _ _ => op_mul) ok_mul (lv_ev ev_int) (lv_ev (ev_call (G_law_draw.z (by decide)) (by rfl) (av_io (i := 0) rfl (by first | exact Or.inl rfl | exact Or.inr (Or.inl rfl) | exact Or.inr (Or.inr rfl)) (av_imm ev_int av_nil))))))
    (bv_cons (sv_asg (i := 4) rfl (by first | exact Or.inr rfl | exact Or.inl ⟨rfl, Or.inl rfl⟩ | exact Or.inl ⟨rfl, Or.inr rfl⟩) (ev_call (G_law_draw.z (by decide)) (by rfl) (av_io (i := 0) rfl (by first | exact Or.inl rfl | exact Or.inr (Or.inl rfl) | exact Or.inr (Or.inr rfl)) (av_imm ev_int av_nil))))
    (bv_cons (sv_asgF (i := 5) rfl (by first | exact Or.inr rfl | exact Or.inl ⟨rfl, Or.inl rfl⟩ | exact Or.inl ⟨rfl, Or.inr rfl⟩) (ef_lst ae_nil))
    (bv_cons (sv_for (iv_rng1 (by rfl) T.b_range (ae_cons (ev_var (i := 1) rfl (by first | exact Or.inl rfl | exact Or.inr (Or.inl rfl) | exact Or.inr (Or.inr rfl))) ae_nil)) (gv_name (i := 6) rfl (by first | exact Or.inr rfl | exact Or.inl ⟨rfl, Or.inl rfl⟩ | exact Or.inl ⟨rfl, Or.inr rfl⟩))
    (bv_cons (sv_asg (i := 7) rfl (by first | exact Or.inr rfl | exact Or.inl ⟨rfl, Or.inl rfl⟩ | exact Or.inl ⟨rfl, Or.inr rfl⟩) ev_str)
    (bv_cons (sv_for (iv_rng1 (by rfl) T.b_range (ae_cons (ev_var (i := 2) rfl (by first | exact Or.inl rfl | exact Or.inr (Or.inl rfl) | exact Or.inr (Or.inr rfl))) ae_nil)) (gv_name (i := 8) rfl (by first | exact Or.inr rfl | exact Or.inl ⟨rfl, Or.inl rfl⟩ | exact Or.inl ⟨rfl, Or.inr rfl⟩))
    (bv_one (sv_asg (i := 7) rfl (by first | exact Or.inr rfl | exact Or.inl ⟨rfl, Or.inl rfl⟩ | exact Or.inl ⟨rfl, Or.inr rfl⟩) (ev_op (fun _ _ => or_add) ok_add (lv_var (i := 7) rfl (by first | exact Or.inl rfl | exact Or.inr (Or.inl rfl) | exact Or.inr (Or.inr rfl))) (lv_ev (ev_call (G_law_tile.z (by decide)) (by rfl) (av_io (i := 0) rfl (by first | exact Or.inl rfl | exact Or.inr (Or.inl rfl) | exact Or.inr (Or.inr rfl)) (av_imm (ev_var (i := 3) rfl (by first | exact Or.inl rfl | exact Or.inr (Or.inl rfl) | exact Or.inr (Or.inr rfl))) (av_imm (ev_var (i := 4) rfl (by first | exact Or.inl rfl | exact Or.inr (Or.inl rfl) | exact Or.inr (Or.inr rfl))) av_nil)))))))))
    (bv_one (sv_append (i := 5) rfl (by first | exact Or.inl rfl | exact Or.inr (Or.inl rfl) | exact Or.inr (Or.inr rfl)) (ev_var (i := 7) rfl (by first | exact Or.inl rfl | exact Or.inr (Or.inl rfl) | exact Or.inr (Or.inr rfl))))))))
    (bv_cons (sv_asg (i := 9) rfl (by first | exact Or.inr rfl | exact Or.inl ⟨rfl, Or.inl rfl⟩ | exact Or.inl ⟨rfl, Or.inr rfl⟩) (ev_call (G_law_used.z (by decide)) (by rfl) (av_imm (ev_var (i := 5) rfl (by first | exact Or.inl rfl | exact Or.inr (Or.inl rfl) | exact Or.inr (Or.inr rfl))) av_nil)))
    (bv_cons (sv_asgLc (i := 5) (own := ([("row", 7)] : List (Str × Nat))) rfl rfl rfl (iv_any (ev_var (i := 5) rfl (by first | exact Or.inl rfl | exact Or.inr (Or.inl rfl) | exact Or.inr (Or.inr rfl)))) (blkOk_by (N := n_law_rows) (sc := defScope s_law_rows) (own := ([("row", 7)] : List (Str × Nat))) (by decide +kernel)) (gv_name (i := 7) rfl (by first | exact Or.inr rfl | exact Or.inl ⟨rfl, Or.inl rfl⟩ | exact Or.inl ⟨rfl, Or.inr rfl⟩)) cv_nil (ev_call (G_law_renamed.zb (by decide)) (by rfl) (av_imm (ev_var (i := 7) rfl (by first | exact Or.inl rfl | exact Or.inr (Or.inl rfl) | exact Or.inr (Or.inr rfl))) (av_bor (i := 9) rfl (by first | exact Or.inl rfl | exact Or.inr (Or.inl rfl) | exact Or.inr (Or.inr rfl)) av_nil))) (hl := by rfl) (ha := by decide +kernel))
    (bv_cons (sv_if (tv_not (tv_tru (lv_ev (ev_call (G_law_has_door.z (by decide)) (by rfl) (av_imm (ev_var (i := 5) rfl (by first | exact Or.inl rfl | exact Or.inr (Or.inl rfl) | exact Or.inr (Or.inr rfl))) av_nil)))))
    (bv_one (sv_asgF (i := 5) rfl (by first | exact Or.inr rfl | exact Or.inl ⟨rfl, Or.inl rfl⟩ | exact Or.inl ⟨rfl, Or.inr rfl⟩) ((ef_call (G_law_with_door.z (by decide)) (by rfl) (av_bor (i := 5) rfl (by first | exact Or.inl rfl | exact Or.inr (Or.inl rfl) | exact Or.inr (Or.inr rfl)) av_nil)))))
    bv_nil)
    (bv_one (sv_retO (i := 5) rfl (by first | exact Or.inl rfl | exact Or.inr (Or.inl rfl) | exact Or.inr (Or.inr rfl)))))))))))))
theorem g_law_rows {c : Pc} {f : Addr} {fd : FuncData} (T : Txt c) (F : Fun c.K "_law_rows" "_law_rows" s_law_rows f fd) (hm : c.mg "_law_rows" = some (.ref f)) (G_law_draw : FnC c 1 "_law_draw" n_law_draw 2 m_law_draw) (G_law_tile : FnC c 2 "_law_tile" n_law_tile 3 m_law_tile) (G_law_used : FnC c 1 "_law_used" n_law_used 1 m_law_used) (G_law_renamed : FnC c 1 "_law_renamed" n_law_renamed 2 m_law_renamed) (G_law_has_door : FnC c 1 "_law_has_door" n_law_has_door 1 m_law_has_door) (G_law_with_door : FnC c 1 "_law_with_door" n_law_with_door 1 m_law_with_door) : FnC c 3 "_law_rows" n_law_rows 1 m_law_rows :=
  ⟨f, fd, ["box"], fn_ok F sc_law_rows (b_law_rows T G_law_draw G_law_tile G_law_used G_law_renamed G_law_has_door G_law_with_door), hm, F.kp, F.binds (ps := ["box"]) fun _ _ _ _ _ _ us hl => match us, hl with | [_], _ => rfl⟩
/-! _law_places -/
abbrev s_law_places : Stmt := top 24
abbrev n_law_places : List Str := ["rows", "places", "k", "at"]
theorem sc_law_places : FnScope n_law_places ["rows"] (defScope s_law_places) := ⟨rfl, rfl, rfl, by decide +kernel, rfl, by decide +kernel, by decide +kernel⟩
def m_law_places : MS :=
    (mSeq (mAsgF 1 (mLst aNil))
    (mSeq (mForS (iR1 (aCons (mBi dLen (bCons (lVar 0) bNil)) aNil)) (gN 2)
    (mForS (iR1 (aCons (mBi dLen (bCons (lFix (mBin dIx (lVar 0) (lVar 2))) bNil)) aNil)) (gN 3)
    (mIfS (mTest (mBin (dEqv true) (lFix (mBin dIx (lFix (mBin dIx (lVar 0) (lVar 2))) (lVar 3))) (lFix (mC (.str "#")))))
    (mApp 1 (mTup (aCons (mVar 2) (aCons (mVar 3) aNil))))
    mNext)))
    (mRetO 1)))
theorem b_law_places {c : Pc} (T : Txt c) : BV (c.z 0 n_law_places (defScope s_law_places)) (defBody s_law_places) m_law_places :=
    (bv_cons (sv_asgF (i := 1) rfl (by first | exact Or.inr rfl | exact Or.inl ⟨rfl, Or.inl rfl⟩ | exact Or.inl ⟨rfl, Or.inr rfl⟩) (ef_lst ae_nil))
    (bv_cons (sv_for (iv_rng1 (by rfl) T.b_range (ae_cons (ev_callB (fun _ h => cr_len h) ok_len (by rfl) T.b_len (by decide +kernel) (al_cons (lv_var (i := 0) rfl (by first | exact Or.inl rfl | exact Or.inr (Or.inl rfl) | exact Or.inr (Or.inr rfl))) al_nil)) ae_nil)) (gv_name (i := 2) rfl (by first | exact Or.inr rfl | exact Or.inl ⟨rfl, Or.inl rfl⟩ | exact Or.inl ⟨rfl, Or.inr rfl⟩))
    (bv_one (sv_for (iv_rng1 (by rfl) T.b_range (ae_cons (ev_callB (fun _ h => cr_len h) ok_len (by rfl) T.b_len (by decide +kernel) (al_cons (lv_ev (ev_ix (lv_var (i := 0) rfl (by first | exact Or.inl rfl | exact Or.inr (Or.inl rfl) | exact Or.inr (Or.inr rfl))) (lv_var (i := 2) rfl (by first | exact Or.inl rfl | exact Or.inr (Or.inl rfl) | exact Or.inr (Or.inr rfl))))) al_nil)) ae_nil)) (gv_name (i := 3) rfl (by first | exact Or.inr rfl | exact Or.inl ⟨rfl, Or.inl rfl⟩ | exact Or.inl ⟨rfl, Or.inr rfl⟩))
    (bv_one (sv_if (tv_cmp (fun _ h => or_ne h) ok_ne (lv_ev (ev_ix (lv_ev (ev_ix (lv_var (i := 0) rfl (by first | exact Or.inl rfl | exact Or.inr (Or.inl rfl) | exact Or.inr (Or.inr rfl))) (lv_var (i := 2) rfl (by first | exact Or.inl rfl | exact Or.inr (Or.inl rfl) | exact Or.inr (Or.inr rfl))))) (lv_var (i := 3) rfl (by first | exact Or.inl rfl | exact Or.inr (Or.inl rfl) | exact Or.inr (Or.inr rfl))))) (lv_ev ev_str) (nomark _))
    (bv_one (sv_append (i := 1) rfl (by first | exact Or.inl rfl | exact Or.inr (Or.inl rfl) | exact Or.inr (Or.inr rfl)) (ev_tup (ae_cons (ev_var (i := 2) rfl (by first | exact Or.inl rfl | exact Or.inr (Or.inl rfl) | exact Or.inr (Or.inr rfl))) (ae_cons (ev_var (i := 3) rfl (by first | exact Or.inl rfl | exact Or.inr (Or.inl rfl) | exact Or.inr (Or.inr rfl))) ae_nil)))))
    bv_nil)))))
    (bv_one (sv_retO (i := 1) rfl (by first | exact Or.inl rfl | exact Or.inr (Or.inl rfl) | exact Or.inr (Or.inr rfl))))))
theorem g_law_places {c : Pc} {f : Addr} {fd : FuncData} (T : Txt c) (F : Fun c.K "_law_places" "_law_places" s_law_places f fd) (hm : c.mg "_law_places" = some (.ref f)) : FnC c 1 "_law_places" n_law_places 1 m_law_places :=
  ⟨f, fd, ["rows"], fn_ok F sc_law_places (b_law_places T), hm, F.kp, F.binds (ps := ["rows"]) fun _ _ _ _ _ _ us hl => match us, hl with | [_], _ => rfl⟩
/-! _law_near -/
abbrev s_law_near : Stmt := top 25
abbrev n_law_near : List Str := ["places", "near", "cell", "row", "other", "down", "over"]
theorem sc_law_near : FnScope n_law_near ["places"] (defScope s_law_near) := ⟨rfl, rfl, rfl, by decide +kernel, rfl, by decide +kernel, by decide +kernel⟩
def m_law_near : MS :=
    (mSeq (mAsgF 1 (mLst aNil))
    (mSeq (mForS (iR1 (aCons (mBi dLen (bCons (lVar 0) bNil)) aNil)) (gN 2)
    (mSeq (mAsgF 3 (mLst aNil))
    (mSeq (mForS (iR1 (aCons (mBi dLen (bCons (lVar 0) bNil)) aNil)) (gN 4)
    (mSeq (mAsg 5 (mBi dAbs (bCons (lFix (mBin dSub (lFix (mBin dIx (lFix (mBin dIx (lVar 0) (lVar 2))) (lFix (mC (.int 0))))) (lFix (mBin dIx (lFix (mBin dIx (lVar 0) (lVar 4))) (lFix (mC (.int 0))))))) bNil)))
    (mSeq (mAsg 6 (mBi dAbs (bCons (lFix (mBin dSub (lFix (mBin dIx (lFix (mBin dIx (lVar 0) (lVar 2))) (lFix (mC (.int 1))))) (lFix (mBin dIx (lFix (mBin dIx (lVar 0) (lVar 4))) (lFix (mC (.int 1))))))) bNil)))
    (mIfS (mTest (mBin (dEqv false) (lFix (mBin dAdd (lVar 5) (lVar 6))) (lFix (mC (.int 1)))))
    (mApp 3 (mVar 4))
    mNext))))
    (mApp 1 (mVar 3)))))
    (mRetO 1)))
theorem b_law_near {c : Pc} (T : Txt c) : BV (c.z 0 n_law_near (defScope s_law_near)) (defBody s_law_near) m_law_near :=
    (bv_cons (sv_asgF (i := 1) rfl (by first | exact Or.inr rfl | exact Or.inl ⟨rfl, Or.inl rfl⟩ | exact Or.inl ⟨rfl, Or.inr rfl⟩) (ef_lst ae_nil))
    (bv_cons (sv_for (iv_rng1 (by rfl) T.b_range (ae_cons (ev_callB (fun _ h => cr_len h) ok_len (by rfl) T.b_len (by decide +kernel) (al_cons (lv_var (i := 0) rfl (by first | exact Or.inl rfl | exact Or.inr (Or.inl rfl) | exact Or.inr (Or.inr rfl))) al_nil)) ae_nil)) (gv_name (i := 2) rfl (by first | exact Or.inr rfl | exact Or.inl ⟨rfl, Or.inl rfl⟩ | exact Or.inl ⟨rfl, Or.inr rfl⟩))
    (bv_cons (sv_asgF (i := 3) rfl (by first | exact Or.inr rfl | exact Or.inl ⟨rfl, Or.inl rfl⟩ | exact Or.inl ⟨rfl, Or.inr rfl⟩) (ef_lst ae_nil))
    (bv_cons (sv_for (iv_rng1 (by rfl) T.b_range (ae_cons (ev_callB (fun _ h => cr_len h) ok_len (by rfl) T.b_len (by decide +kernel) (al_cons (lv_var (i := 0) rfl (by first | exact Or.inl rfl | exact Or.inr (Or.inl rfl) | exact Or.inr (Or.inr rfl))) al_nil)) ae_nil)) (gv_name (i := 4) rfl (by first | exact Or.inr rfl | exact Or.inl ⟨rfl, Or.inl rfl⟩ | exact Or.inl ⟨rfl, Or.inr rfl⟩))
    (bv_cons (sv_asg (i := 5) rfl (by first | exact Or.inr rfl | exact Or.inl ⟨rfl, Or.inl rfl⟩ | exact Or.inl ⟨rfl, Or.inr rfl⟩) (ev_callB (fun _ _ => cr_abs) ok_abs (by rfl) T.b_abs (by decide +kernel) (al_cons (lv_ev (ev_op (fun _ _ => op_sub) ok_sub (lv_ev (ev_ix (lv_ev (ev_ix (lv_var (i := 0) rfl (by first | exact Or.inl rfl | exact Or.inr (Or.inl rfl) | exact Or.inr (Or.inr rfl))) (lv_var (i := 2) rfl (by first | exact Or.inl rfl | exact Or.inr (Or.inl rfl) | exact Or.inr (Or.inr rfl))))) (lv_ev ev_int))) (lv_ev (ev_ix (lv_ev (ev_ix (lv_var (i := 0) rfl (by first | exact Or.inl rfl | exact Or.inr (Or.inl rfl) | exact Or.inr (Or.inr rfl))) (lv_var (i := 4) rfl (by first | exact Or.inl rfl | exact Or.inr (Or.inl rfl) | exact Or.inr (Or.inr rfl))))) (lv_ev ev_int))))) al_nil)))
    (bv_cons (sv_asg (i := 6) rfl (by first | exact Or.inr rfl | exact Or.inl ⟨rfl, Or.inl rfl⟩ | exact Or.inl ⟨rfl, Or.inr rfl⟩) (ev_callB (fun _ _ => cr_abs) ok_abs (by rfl) T.b_abs (by decide +kernel) (al_cons (lv_ev (ev_op (fun _ _ => op_sub) ok_sub (lv_ev (ev_ix (lv_ev (ev_ix (lv_var (i := 0) rfl (by first | exact Or.inl rfl | exact Or.inr (Or.inl rfl) | exact Or.inr (Or.inr rfl))) (lv_var (i := 2) rfl (by first | exact Or.inl rfl | exact Or.inr (Or.inl rfl) | exact Or.inr (Or.inr rfl))))) (lv_ev ev_int))) (lv_ev (ev_ix (lv_ev (ev_ix (lv_var (i := 0) rfl (by first | exact Or.inl rfl | exact Or.inr (Or.inl rfl) | exact Or.inr (Or.inr rfl))) (lv_var (i := 4) rfl (by first | exact Or.inl rfl | exact Or.inr (Or.inl rfl) | exact Or.inr (Or.inr rfl))))) (lv_ev ev_int))))) al_nil)))
    (bv_one (sv_if (tv_cmp (fun _ h => or_eq h) ok_eq (lv_ev (ev_op (fun _ _ => or_add) ok_add (lv_var (i := 5) rfl (by first | exact Or.inl rfl | exact Or.inr (Or.inl rfl) | exact Or.inr (Or.inr rfl))) (lv_var (i := 6) rfl (by first | exact Or.inl rfl | exact Or.inr (Or.inl rfl) | exact Or.inr (Or.inr rfl))))) (lv_ev ev_int) (nomark _))
    (bv_one (sv_append (i := 3) rfl (by first | exact Or.inl rfl | exact Or.inr (Or.inl rfl) | exact Or.inr (Or.inr rfl)) (ev_var (i := 4) rfl (by first | exact Or.inl rfl | exact Or.inr (Or.inl rfl) | exact Or.inr (Or.inr rfl)))))
    bv_nil)))))
    (bv_one (sv_append (i := 1) rfl (by first | exact Or.inl rfl | exact Or.inr (Or.inl rfl) | exact Or.inr (Or.inr rfl)) (ev_var (i := 3) rfl (by first | exact Or.inl rfl | exact Or.inr (Or.inl rfl) | exact Or.inr (Or.inr rfl))))))))
    (bv_one (sv_retO (i := 1) rfl (by first | exact Or.inl rfl | exact Or.inr (Or.inl rfl) | exact Or.inr (Or.inr rfl))))))
theorem g_law_near {c : Pc} {f : Addr} {fd : FuncData} (T : Txt c) (F : Fun c.K "_law_near" "_law_near" s_law_near f fd) (hm : c.mg "_law_near" = some (.ref f)) : FnC c 1 "_law_near" n_law_near 1 m_law_near :=
  ⟨f, fd, ["places"], fn_ok F sc_law_near (b_law_near T), hm, F.kp, F.binds (ps := ["places"]) fun _ _ _ _ _ _ us hl => match us, hl with | [_], _ => rfl⟩
/-! _law_doors -/
abbrev s_law_doors : Stmt := top 26
abbrev n_law_doors : List Str := ["rows", "places", "cell"]
theorem sc_law_doors : FnScope n_law_doors ["rows", "places"] (defScope s_law_doors) := ⟨rfl, rfl, rfl, by decide +kernel, rfl, by decide +kernel, by decide +kernel⟩
def m_law_doors : MS :=
    (mRetF (mLc [2] (iR1 (aCons (mBi dLen (bCons (lVar 1) bNil)) aNil)) (gN 2) (mTest (mBin (dIn false) (lFix (mBin dIx (lFix (mBin dIx (lVar 0) (lFix (mBin dIx (lFix (mBin dIx (lVar 1) (lVar 2))) (lFix (mC (.int 0))))))) (lFix (mBin dIx (lFix (mBin dIx (lVar 1) (lVar 2))) (lFix (mC (.int 1))))))) (lFix (mC (.str "+abcdefgh"))))) (mVar 2)))
theorem b_law_doors {c : Pc} (T : Txt c) : BV (c.z 0 n_law_doors (defScope s_law_doors)) (defBody s_law_doors) m_law_doors :=
    (bv_one (sv_retF (ef_lc (own := ([("cell", 2)] : List (Str × Nat))) (iv_rng1 (by rfl) T.b_range (ae_cons (ev_callB (fun _ h => cr_len h) ok_len (by rfl) T.b_len (by decide +kernel) (al_cons (lv_var (i := 1) rfl (by first | exact Or.inl rfl | exact Or.inr (Or.inl rfl) | exact Or.inr (Or.inr rfl))) al_nil)) ae_nil)) (blkOk_by (N := n_law_doors) (sc := defScope s_law_doors) (own := ([("cell", 2)] : List (Str × Nat))) (by decide +kernel)) (gv_name (i := 2) rfl (by first | exact Or.inr rfl | exact Or.inl ⟨rfl, Or.inl rfl⟩ | exact Or.inl ⟨rfl, Or.inr rfl⟩)) (cv_one (tv_cmp (fun _ h => or_in h) ok_in (lv_ev (ev_ix (lv_ev (ev_ix (lv_var (i := 0) rfl (by first | exact Or.inl rfl | exact Or.inr (Or.inl rfl) | exact Or.inr (Or.inr rfl))) (lv_ev (ev_ix (lv_ev (ev_ix (lv_var (i := 1) rfl (by first | exact Or.inl rfl | exact Or.inr (Or.inl rfl) | exact Or.inr (Or.inr rfl))) (lv_var (i := 2) rfl (by first | exact Or.inl rfl | exact Or.inr (Or.inl rfl) | exact Or.inr (Or.inr rfl))))) (lv_ev ev_int))))) (lv_ev (ev_ix (lv_ev (ev_ix (lv_var (i := 1) rfl (by first | exact Or.inl rfl | exact Or.inr (Or.inl rfl) | exact Or.inr (Or.inr rfl))) (lv_var (i := 2) rfl (by first | exact Or.inl rfl | exact Or.inr (Or.inl rfl) | exact Or.inr (Or.inr rfl))))) (lv_ev ev_int))))) (lv_ev ev_str) (by rfl))) (ev_var (i := 2) rfl (by first | exact Or.inl rfl | exact Or.inr (Or.inl rfl) | exact Or.inr (Or.inr rfl))))))
theorem g_law_doors {c : Pc} {f : Addr} {fd : FuncData} (T : Txt c) (F : Fun c.K "_law_doors" "_law_doors" s_law_doors f fd) (hm : c.mg "_law_doors" = some (.ref f)) : FnC c 1 "_law_doors" n_law_doors 2 m_law_doors :=
  ⟨f, fd, ["rows", "places"], fn_ok F sc_law_doors (b_law_doors T), hm, F.kp, F.binds (ps := ["rows", "places"]) fun _ _ _ _ _ _ us hl => match us, hl with | [_, _], _ => rfl⟩
/-! _law_stations -/
abbrev s_law_stations : Stmt := top 27
abbrev n_law_stations : List Str := ["rows", "places", "stations", "k", "row", "cell", "tile"]
theorem sc_law_stations : FnScope n_law_stations ["rows", "places"] (defScope s_law_stations) := ⟨rfl, rfl, rfl, by decide +kernel, rfl, by decide +kernel, by decide +kernel⟩
def m_law_stations : MS :=
    (mSeq (mAsgF 2 (mLst aNil))
    (mSeq (mForS (iR1 (aCons (mC (.int 8)) aNil)) (gN 3)
    (mSeq (mAsgF 4 (mLst aNil))
    (mSeq (mForS (iR1 (aCons (mBi dLen (bCons (lVar 1) bNil)) aNil)) (gN 5)
    (mSeq (mAsg 6 (mBin dIx (lFix (mBin dIx (lVar 0) (lFix (mBin dIx (lFix (mBin dIx (lVar 1) (lVar 5))) (lFix (mC (.int 0))))))) (lFix (mBin dIx (lFix (mBin dIx (lVar 1) (lVar 5))) (lFix (mC (.int 1)))))))
    (mIfS (mOr (mTest (mBin (dEqv false) (lVar 6) (lFix (mBin dIx (lFix (mC (.str "ABCDEFGH"))) (lVar 3))))) (mTest (mBin (dEqv false) (lVar 6) (lFix (mBin dIx (lFix (mC (.str "abcdefgh"))) (lVar 3))))))
    (mApp 4 (mVar 5))
    mNext)))
    (mIfS (mTest (mBin dGt (lFix (mBi dLen (bCons (lVar 4) bNil))) (lFix (mC (.int 0)))))
    (mApp 2 (mVar 4))
    mNext))))
    (mRetO 2)))
theorem b_law_stations {c : Pc} (T : Txt c) : BV (c.z 0 n_law_stations (defScope s_law_stations)) (defBody s_law_stations) m_law_stations :=
    (bv_cons (sv_asgF (i := 2) rfl (by first | exact Or.inr rfl | exact Or.inl ⟨rfl, Or.inl rfl⟩ | exact Or.inl ⟨rfl, Or.inr rfl⟩) (ef_lst ae_nil))
    (bv_cons (sv_for (iv_rng1 (by rfl) T.b_range (ae_cons ev_int ae_nil)) (gv_name (i := 3) rfl (by first | exact Or.inr rfl | exact Or.inl ⟨rfl, Or.inl rfl⟩ | exact Or.inl ⟨rfl, Or.inr rfl⟩))
    (bv_cons (sv_asgF (i := 4) rfl (by first | exact Or.inr rfl | exact Or.inl ⟨rfl, Or.inl rfl⟩ | exact Or.inl ⟨rfl, Or.inr rfl⟩) (ef_lst ae_nil))
    (bv_cons (sv_for (iv_rng1 (by rfl) T.b_range (ae_cons (ev_callB (fun _ h => cr_len h) ok_len (by rfl) T.b_len (by decide +kernel) (al_cons (lv_var (i := 1) rfl (by first | exact Or.inl rfl | exact Or.inr (Or.inl rfl) | exact Or.inr (Or.inr rfl))) al_nil)) ae_nil)) (gv_name (i := 5) rfl (by first | exact Or.inr rfl | exact Or.inl ⟨rfl, Or.inl rfl⟩ | exact Or.inl ⟨rfl, Or.inr rfl⟩))
    (bv_cons (sv_asg (i := 6) rfl (by first | exact Or.inr rfl | exact Or.inl ⟨rfl, Or.inl rfl⟩ | exact Or.inl ⟨rfl, Or.inr rfl⟩) (ev_ix (lv_ev (ev_ix (lv_var (i := 0) rfl (by first | exact Or.inl rfl | exact Or.inr (Or.inl rfl) | exact Or.inr (Or.inr rfl))) (lv_ev (ev_ix (lv_ev (ev_ix (lv_var (i := 1) rfl (by first | exact Or.inl rfl | exact Or.inr (Or.inl rfl) | exact Or.inr (Or.inr rfl))) (lv_var (i := 5) rfl (by first | exact Or.inl rfl | exact Or.inr (Or.inl rfl) | exact Or.inr (Or.inr rfl))))) (lv_ev ev_int))))) (lv_ev (ev_ix (lv_ev (ev_ix (lv_var (i := 1) rfl (by first | exact Or.inl rfl | exact Or.inr (Or.inl rfl) | exact Or.inr (Or.inr rfl))) (lv_var (i := 5) rfl (by first | exact Or.inl rfl | exact Or.inr (Or.inl rfl) | exact Or.inr (Or.inr rfl))))) (lv_ev ev_int)))))
    (bv_one (sv_if ((wv_or (tv_cmp (fun _ h => or_eq h) ok_eq (lv_var (i := 6) rfl (by first | exact Or.inl rfl | exact Or.inr (Or.inl rfl) | exact Or.inr (Or.inr rfl))) (lv_ev (ev_ix (lv_ev ev_str) (lv_var (i := 3) rfl (by first | exact Or.inl rfl | exact Or.inr (Or.inl rfl) | exact Or.inr (Or.inr rfl))))) (nomark _)) (wv_or1 (tv_cmp (fun _ h => or_eq h) ok_eq (lv_var (i := 6) rfl (by first | exact Or.inl rfl | exact Or.inr (Or.inl rfl) | exact Or.inr (Or.inr rfl))) (lv_ev (ev_ix (lv_ev ev_str) (lv_var (i := 3) rfl (by first | exact Or.inl rfl | exact Or.inr (Or.inl rfl) | exact Or.inr (Or.inr rfl))))) (nomark _))))).tv
    (bv_one (sv_append (i := 4) rfl (by first | exact Or.inl rfl | exact Or.inr (Or.inl rfl) | exact Or.inr (Or.inr rfl)) (ev_var (i := 5) rfl (by first | exact Or.inl rfl | exact Or.inr (Or.inl rfl) | exact Or.inr (Or.inr rfl)))))
    bv_nil))))
    (bv_one (sv_if (tv_cmp (fun _ _ => op_gt) ok_cmp (lv_ev (ev_callB (fun _ h => cr_len h) ok_len (by rfl) T.b_len (by decide +kernel) (al_cons (lv_var (i := 4) rfl (by first | exact Or.inl rfl | exact Or.inr (Or.inl rfl) | exact Or.inr (Or.inr rfl))) al_nil))) (lv_ev ev_int) (nomark _))
    (bv_one (sv_append (i := 2) rfl (by first | exact Or.inl rfl | exact Or.inr (Or.inl rfl) | exact Or.inr (Or.inr rfl)) (ev_var (i := 4) rfl (by first | exact Or.inl rfl | exact Or.inr (Or.inl rfl) | exact Or.inr (Or.inr rfl)))))
    bv_nil)))))
    (bv_one (sv_retO (i := 2) rfl (by first | exact Or.inl rfl | exact Or.inr (Or.inl rfl) | exact Or.inr (Or.inr rfl))))))
theorem g_law_stations {c : Pc} {f : Addr} {fd : FuncData} (T : Txt c) (F : Fun c.K "_law_stations" "_law_stations" s_law_stations f fd) (hm : c.mg "_law_stations" = some (.ref f)) : FnC c 1 "_law_stations" n_law_stations 2 m_law_stations :=
  ⟨f, fd, ["rows", "places"], fn_ok F sc_law_stations (b_law_stations T), hm, F.kp, F.binds (ps := ["rows", "places"]) fun _ _ _ _ _ _ us hl => match us, hl with | [_, _], _ => rfl⟩
/-! _law_made -/
abbrev s_law_made : Stmt := top 28
abbrev n_law_made : List Str := ["box", "rows", "places", "near"]
theorem sc_law_made : FnScope n_law_made ["box"] (defScope s_law_made) := ⟨rfl, rfl, rfl, by decide +kernel, rfl, by decide +kernel, by decide +kernel⟩
def m_law_made : MS :=
    (mSeq (mAsg 1 (mCallV n_law_rows 1 m_law_rows (cIo 0 cNil)))
    (mSeq (mAsg 2 (mCallV n_law_places 1 m_law_places (cBor 1 cNil)))
    (mSeq (mAsg 3 (mCallV n_law_near 1 m_law_near (cBor 2 cNil)))
    (mRetF (mLst (aCons (mVar 3) (aCons (mCallV n_law_doors 2 m_law_doors (cBor 1 (cBor 2 cNil))) (aCons (mCallV n_law_stations 2 m_law_stations (cBor 1 (cBor 2 cNil))) aNil))))))))
theorem b_law_made {c : Pc} (T : Txt c) (G_law_rows : FnC c 3 "_law_rows" n_law_rows 1 m_law_rows) (G_law_places : FnC c 1 "_law_places" n_law_places 1 m_law_places) (G_law_near : FnC c 1 "_law_near" n_law_near 1 m_law_near) (G_law_doors : FnC c 1 "_law_doors" n_law_doors 2 m_law_doors) (G_law_stations : FnC c 1 "_law_stations" n_law_stations 2 m_law_stations) : BV (c.z 3 n_law_made (defScope s_law_made)) (defBody s_law_made) m_law_made :=
    (bv_cons (sv_asg (i := 1) rfl (by first | exact Or.inr rfl | exact Or.inl ⟨rfl, Or.inl rfl⟩ | exact Or.inl ⟨rfl, Or.inr rfl⟩) (ev_call (G_law_rows.z (by decide)) (by rfl) (av_io (i := 0) rfl (by first | exact Or.inl rfl | exact Or.inr (Or.inl rfl) | exact Or.inr (Or.inr rfl)) av_nil)))
    (bv_cons (sv_asg (i := 2) rfl (by first | exact Or.inr rfl | exact Or.inl ⟨rfl, Or.inl rfl⟩ | exact Or.inl ⟨rfl, Or.inr rfl⟩) (ev_call (G_law_places.z (by decide)) (by rfl) (av_bor (i := 1) rfl (by first | exact Or.inl rfl | exact Or.inr (Or.inl rfl) | exact Or.inr (Or.inr rfl)) av_nil)))
    (bv_cons (sv_asg (i := 3) rfl (by first | exact Or.inr rfl | exact Or.inl ⟨rfl, Or.inl rfl⟩ | exact Or.inl ⟨rfl, Or.inr rfl⟩) (ev_call (G_law_near.z (by decide)) (by rfl) (av_bor (i := 2) rfl (by first | exact Or.inl rfl | exact Or.inr (Or.inl rfl) | exact Or.inr (Or.inr rfl)) av_nil)))
    (bv_one (sv_retF (ef_lst (ae_cons (ev_var (i := 3) rfl (by first | exact Or.inl rfl | exact Or.inr (Or.inl rfl) | exact Or.inr (Or.inr rfl))) (ae_cons (ev_call (G_law_doors.z (by decide)) (by rfl) (av_bor (i := 1) rfl (by first | exact Or.inl rfl | exact Or.inr (Or.inl rfl) | exact Or.inr (Or.inr rfl)) (av_bor (i := 2) rfl (by first | exact Or.inl rfl | exact Or.inr (Or.inl rfl) | exact Or.inr (Or.inr rfl)) av_nil))) (ae_cons (ev_call (G_law_stations.z (by decide)) (by rfl) (av_bor (i := 1) rfl (by first | exact Or.inl rfl | exact Or.inr (Or.inl rfl) | exact Or.inr (Or.inr rfl)) (av_bor (i := 2) rfl (by first | exact Or.inl rfl | exact Or.inr (Or.inl rfl) | exact Or.inr (Or.inr rfl)) av_nil))) ae_nil)))))))))
theorem g_law_made {c : Pc} {f : Addr} {fd : FuncData} (T : Txt c) (F : Fun c.K "_law_made" "_law_made" s_law_made f fd) (hm : c.mg "_law_made" = some (.ref f)) (G_law_rows : FnC c 3 "_law_rows" n_law_rows 1 m_law_rows) (G_law_places : FnC c 1 "_law_places" n_law_places 1 m_law_places) (G_law_near : FnC c 1 "_law_near" n_law_near 1 m_law_near) (G_law_doors : FnC c 1 "_law_doors" n_law_doors 2 m_law_doors) (G_law_stations : FnC c 1 "_law_stations" n_law_stations 2 m_law_stations) : FnC c 4 "_law_made" n_law_made 1 m_law_made :=
  ⟨f, fd, ["box"], fn_ok F sc_law_made (b_law_made T G_law_rows G_law_places G_law_near G_law_doors G_law_stations), hm, F.kp, F.binds (ps := ["box"]) fun _ _ _ _ _ _ us hl => match us, hl with | [_], _ => rfl⟩
/-! Floor.__init__ -/
abbrev s_Floor__init : Stmt := inClass (top 7) 0
abbrev n_Floor__init : List Str := ["self", "near", "doors", "stations", "places", "cells"]
theorem sc_Floor__init : FnScope n_Floor__init ["self", "near", "doors", "stations", "places"] (defScope s_Floor__init) := ⟨rfl, rfl, rfl, by decide +kernel, rfl, by decide +kernel, by decide +kernel⟩
def m_Floor__init : MS :=
    (mSeq (mSetF "Floor" "near" 0 (mLc [5] (iAny (mVar 1)) (gN 5) mYes (mBi dList (bCons (lVar 5) bNil))))
    (mSeq (mSetF "Floor" "doors" 0 (mBi dList (bCons (lVar 2) bNil)))
    (mSeq (mSetF "Floor" "stations" 0 (mLc [5] (iAny (mVar 3)) (gN 5) mYes (mBi dList (bCons (lVar 5) bNil))))
    (mSeq (mSetF "Floor" "places" 0 (mBi dList (bCons (lVar 4) bNil)))
    (mSeq (mSetF "Floor" "size" 0 (mBi dLen (bCons (lFix (mFld "Floor" "near" (lVar 0))) bNil)))
    (mSetF "Floor" "depot" 0 (mFld "Floor" "size" (lVar 0))))))))
theorem b_Floor__init {c : Pc} (T : Txt c) : BV (c.z 0 n_Floor__init (defScope s_Floor__init)) (defBody s_Floor__init) m_Floor__init :=
    (bv_cons (sv_setF (c := "Floor") (i := 0) T.f_Floor_near rfl (by first | exact Or.inl rfl | exact Or.inr (Or.inl rfl) | exact Or.inr (Or.inr rfl)) (ef_lc (own := ([("cells", 5)] : List (Str × Nat))) (iv_any (ev_var (i := 1) rfl (by first | exact Or.inl rfl | exact Or.inr (Or.inl rfl) | exact Or.inr (Or.inr rfl)))) (blkOk_by (N := n_Floor__init) (sc := defScope s_Floor__init) (own := ([("cells", 5)] : List (Str × Nat))) (by decide +kernel)) (gv_name (i := 5) rfl (by first | exact Or.inr rfl | exact Or.inl ⟨rfl, Or.inl rfl⟩ | exact Or.inl ⟨rfl, Or.inr rfl⟩)) cv_nil (ef_callT (fun _ h => cr_list h) ok_list (by rfl) T.b_list (by decide +kernel) (al_cons (lv_var (i := 5) rfl (by first | exact Or.inl rfl | exact Or.inr (Or.inl rfl) | exact Or.inr (Or.inr rfl))) al_nil)).ev).ev)
    (bv_cons (sv_setF (c := "Floor") (i := 0) T.f_Floor_doors rfl (by first | exact Or.inl rfl | exact Or.inr (Or.inl rfl) | exact Or.inr (Or.inr rfl)) (ef_callT (fun _ h => cr_list h) ok_list (by rfl) T.b_list (by decide +kernel) (al_cons (lv_var (i := 2) rfl (by first | exact Or.inl rfl | exact Or.inr (Or.inl rfl) | exact Or.inr (Or.inr rfl))) al_nil)).ev)
    (bv_cons (sv_setF (c := "Floor") (i := 0) T.f_Floor_stations rfl (by first | exact Or.inl rfl | exact Or.inr (Or.inl rfl) | exact Or.inr (Or.inr rfl)) (ef_lc (own := ([("cells", 5)] : List (Str × Nat))) (iv_any (ev_var (i := 3) rfl (by first | exact Or.inl rfl | exact Or.inr (Or.inl rfl) | exact Or.inr (Or.inr rfl)))) (blkOk_by (N := n_Floor__init) (sc := defScope s_Floor__init) (own := ([("cells", 5)] : List (Str × Nat))) (by decide +kernel)) (gv_name (i := 5) rfl (by first | exact Or.inr rfl | exact Or.inl ⟨rfl, Or.inl rfl⟩ | exact Or.inl ⟨rfl, Or.inr rfl⟩)) cv_nil (ef_callT (fun _ h => cr_list h) ok_list (by rfl) T.b_list (by decide +kernel) (al_cons (lv_var (i := 5) rfl (by first | exact Or.inl rfl | exact Or.inr (Or.inl rfl) | exact Or.inr (Or.inr rfl))) al_nil)).ev).ev)
    (bv_cons (sv_setF (c := "Floor") (i := 0) T.f_Floor_places rfl (by first | exact Or.inl rfl | exact Or.inr (Or.inl rfl) | exact Or.inr (Or.inr rfl)) (ef_callT (fun _ h => cr_list h) ok_list (by rfl) T.b_list (by decide +kernel) (al_cons (lv_var (i := 4) rfl (by first | exact Or.inl rfl | exact Or.inr (Or.inl rfl) | exact Or.inr (Or.inr rfl))) al_nil)).ev)
    (bv_cons (sv_setF (c := "Floor") (i := 0) T.f_Floor_size rfl (by first | exact Or.inl rfl | exact Or.inr (Or.inl rfl) | exact Or.inr (Or.inr rfl)) (ev_callB (fun _ h => cr_len h) ok_len (by rfl) T.b_len (by decide +kernel) (al_cons (lv_ev (ev_fld (c := "Floor") (lv_var (i := 0) rfl (by first | exact Or.inl rfl | exact Or.inr (Or.inl rfl) | exact Or.inr (Or.inr rfl))) T.f_Floor_near)) al_nil)))
    (bv_one (sv_setF (c := "Floor") (i := 0) T.f_Floor_depot rfl (by first | exact Or.inl rfl | exact Or.inr (Or.inl rfl) | exact Or.inr (Or.inr rfl)) (ev_fld (c := "Floor") (lv_var (i := 0) rfl (by first | exact Or.inl rfl | exact Or.inr (Or.inl rfl) | exact Or.inr (Or.inr rfl))) T.f_Floor_size))))))))
theorem g_Floor__init {c : Pc} {C f : Addr} {fd : FuncData} (T : Txt c) (F : Fun c.K "__init__" "Floor.__init__" s_Floor__init f fd) (hC : c.cl "Floor" = some C) (hm : c.mg "Floor" = some (.ref C)) (M : Mk c.K C f) : MkC c 1 "Floor" "Floor" n_Floor__init 5 m_Floor__init :=
  ⟨C, f, fd, ["self", "near", "doors", "stations", "places"], hC, hm, M, fn_ok F sc_Floor__init (b_Floor__init T), F.binds (ps := ["self", "near", "doors", "stations", "places"]) fun _ _ _ _ _ _ us hl => match us, hl with | [_, _, _, _, _], _ => rfl⟩
/-! floor_of -/
abbrev s_floor_of : Stmt := top 8
abbrev n_floor_of : List Str := ["near", "doors", "stations", "cell"]
theorem sc_floor_of : FnScope n_floor_of ["near", "doors", "stations"] (defScope s_floor_of) := ⟨rfl, rfl, rfl, by decide +kernel, rfl, by decide +kernel, by decide +kernel⟩
def m_floor_of : MS :=
    (mRetF (mMake "Floor" n_Floor__init 5 m_Floor__init (cImm (mVar 0) (cBor 1 (cImm (mVar 2) (cImm (mLc [3] (iR1 (aCons (mBi dLen (bCons (lVar 0) bNil)) aNil)) (gN 3) mYes (mTup (aCons (mC (.int 0)) (aCons (mVar 3) aNil)))) cNil))))))
theorem b_floor_of {c : Pc} (T : Txt c) (G_Floor__init : MkC c 1 "Floor" "Floor" n_Floor__init 5 m_Floor__init) : BV (c.z 2 n_floor_of (defScope s_floor_of)) (defBody s_floor_of) m_floor_of :=
    (bv_one (sv_retF (ef_make (G_Floor__init.z (by decide)) (by rfl) (av_imm (ev_var (i := 0) rfl (by first | exact Or.inl rfl | exact Or.inr (Or.inl rfl) | exact Or.inr (Or.inr rfl))) (av_bor (i := 1) rfl (by first | exact Or.inl rfl | exact Or.inr (Or.inl rfl) | exact Or.inr (Or.inr rfl)) (av_imm (ev_var (i := 2) rfl (by first | exact Or.inl rfl | exact Or.inr (Or.inl rfl) | exact Or.inr (Or.inr rfl))) (av_imm (ef_lc (own := ([("cell", 3)] : List (Str × Nat))) (iv_rng1 (by rfl) T.b_range (ae_cons (ev_callB (fun _ h => cr_len h) ok_len (by rfl) T.b_len (by decide +kernel) (al_cons (lv_var (i := 0) rfl (by first | exact Or.inl rfl | exact Or.inr (Or.inl rfl) | exact Or.inr (Or.inr rfl))) al_nil)) ae_nil)) (blkOk_by (N := n_floor_of) (sc := defScope s_floor_of) (own := ([("cell", 3)] : List (Str × Nat))) (by decide +kernel)) (gv_name (i := 3) rfl (by first | exact Or.inr rfl | exact Or.inl ⟨rfl, Or.inl rfl⟩ | exact Or.inl ⟨rfl, Or.inr rfl⟩)) cv_nil (ev_tup (ae_cons ev_int (ae_cons (ev_var (i := 3) rfl (by first | exact Or.inl rfl | exact Or.inr (Or.inl rfl) | exact Or.inr (Or.inr rfl))) ae_nil)))).ev av_nil)))))))
theorem g_floor_of {c : Pc} {f : Addr} {fd : FuncData} (T : Txt c) (F : Fun c.K "floor_of" "floor_of" s_floor_of f fd) (hm : c.mg "floor_of" = some (.ref f)) (G_Floor__init : MkC c 1 "Floor" "Floor" n_Floor__init 5 m_Floor__init) : FnC c 3 "floor_of" n_floor_of 3 m_floor_of :=
  ⟨f, fd, ["near", "doors", "stations"], fn_ok F sc_floor_of (b_floor_of T G_Floor__init), hm, F.kp, F.binds (ps := ["near", "doors", "stations"]) fun _ _ _ _ _ _ us hl => match us, hl with | [_, _, _], _ => rfl⟩
/-! _law_some -/
abbrev s_law_some : Stmt := top 35
abbrev n_law_some : List Str := ["box", "many", "most", "cells", "k", "cell"]
theorem sc_law_some : FnScope n_law_some ["box", "many", "most"] (defScope s_law_some) := ⟨rfl, rfl, rfl, by decide +kernel, rfl, by decide +kernel, by decide +kernel⟩
def m_law_some : MS :=
    (mSeq (mAsgF 3 (mLst aNil))
    (mSeq (mForS (iR1 (aCons (mCallV n_law_draw 2 m_law_draw (cIo 0 (cImm (mBin dAdd (lVar 2) (lFix (mC (.int 1)))) cNil))) aNil)) (gN 4)
    (mSeq (mAsg 5 (mCallV n_law_draw 2 m_law_draw (cIo 0 (cImm (mVar 1) cNil))))
    (mIfS (mTest (mBin (dIn true) (lVar 5) (lVar 3)))
    (mApp 3 (mVar 5))
    mNext)))
    (mRetO 3)))
theorem b_law_some {c : Pc} (T : Txt c) (G_law_draw : FnC c 1 "_law_draw" n_law_draw 2 m_law_draw) : BV (c.z 1 n_law_some (defScope s_law_some)) (defBody s_law_some) m_law_some :=
    (bv_cons (sv_asgF (i := 3) rfl (by first | exact Or.inr rfl | exact Or.inl ⟨rfl, Or.inl rfl⟩ | exact Or.inl ⟨rfl, Or.inr rfl⟩) (ef_lst ae_nil))
    (bv_cons (sv_for (iv_rng1 (by rfl) T.b_range (ae_cons (ev_call (G_law_draw.z (by decide)) (by rfl) (av_io (i := 0) rfl (by first | exact Or.inl rfl | exact Or.inr (Or.inl rfl) | exact Or.inr (Or.inr rfl)) (av_imm (ev_op (fun _ _ => or_add) ok_add (lv_var (i := 2) rfl (by first | exact Or.inl rfl | exact Or.inr (Or.inl rfl) | exact Or.inr (Or.inr rfl))) (lv_ev ev_int)) av_nil))) ae_nil)) (gv_name (i := 4) rfl (by first | exact Or.inr rfl | exact Or.inl ⟨rfl, Or.inl rfl⟩ | exact Or.inl ⟨rfl, Or.inr rfl⟩))
    (bv_cons (sv_asg (i := 5) rfl (by first | exact Or.inr rfl | exact Or.inl ⟨rfl, Or.inl rfl⟩ | exact Or.inl ⟨rfl, Or.inr rfl⟩) (ev_call (G_law_draw.z (by decide)) (by rfl) (av_io (i := 0) rfl (by first | exact Or.inl rfl | exact Or.inr (Or.inl rfl) | exact Or.inr (Or.inr rfl)) (av_imm (ev_var (i := 1) rfl (by first | exact Or.inl rfl | exact Or.inr (Or.inl rfl) | exact Or.inr (Or.inr rfl))) av_nil))))
    (bv_one (sv_if (tv_cmp (fun _ h => or_nin h) ok_nin (lv_var (i := 5) rfl (by first | exact Or.inl rfl | exact Or.inr (Or.inl rfl) | exact Or.inr (Or.inr rfl))) (lv_var (i := 3) rfl (by first | exact Or.inl rfl | exact Or.inr (Or.inl rfl) | exact Or.inr (Or.inr rfl))) (by rfl))
    (bv_one (sv_append (i := 3) rfl (by first | exact Or.inl rfl | exact Or.inr (Or.inl rfl) | exact Or.inr (Or.inr rfl)) (ev_var (i := 5) rfl (by first | exact Or.inl rfl | exact Or.inr (Or.inl rfl) | exact Or.inr (Or.inr rfl)))))
    bv_nil))))
    (bv_one (sv_retO (i := 3) rfl (by first | exact Or.inl rfl | exact Or.inr (Or.inl rfl) | exact Or.inr (Or.inr rfl))))))
theorem g_law_some {c : Pc} {f : Addr} {fd : FuncData} (T : Txt c) (F : Fun c.K "_law_some" "_law_some" s_law_some f fd) (hm : c.mg "_law_some" = some (.ref f)) (G_law_draw : FnC c 1 "_law_draw" n_law_draw 2 m_law_draw) : FnC c 2 "_law_some" n_law_some 3 m_law_some :=
  ⟨f, fd, ["box", "many", "most"], fn_ok F sc_law_some (b_law_some T G_law_draw), hm, F.kp, F.binds (ps := ["box", "many", "most"]) fun _ _ _ _ _ _ us hl => match us, hl with | [_, _, _], _ => rfl⟩
/-! _law_path -/
abbrev s_law_path : Stmt := top 36
abbrev n_law_path : List Str := ["near", "closed", "used", "start", "doors", "found", "met", "k", "way", "other"]
theorem sc_law_path : FnScope n_law_path ["near", "closed", "used", "start", "doors"] (defScope s_law_path) := ⟨rfl, rfl, rfl, by decide +kernel, rfl, by decide +kernel, by decide +kernel⟩
def m_law_path : MS :=
    (mSeq (mAsgF 5 (mLst (aCons (mLst (aCons (mVar 3) aNil)) aNil)))
    (mSeq (mAsgF 6 (mLst (aCons (mVar 3) aNil)))
    (mSeq (mForS (iR1 (aCons (mBi dLen (bCons (lVar 0) bNil)) aNil)) (gN 7)
    (mIfS (mTest (mBin dLt (lVar 7) (lFix (mBi dLen (bCons (lVar 5) bNil)))))
    (mSeq (mAsg 8 (mBin dIx (lVar 5) (lVar 7)))
    (mSeq (mIfS (mTest (mBin (dIn false) (lFix (mBin dIx (lVar 8) (lFix (mNeg (mC (.int 1)))))) (lVar 4)))
    (mRet (mVar 8))
    mNext)
    (mForS (iAny (mBin dIx (lVar 0) (lFix (mBin dIx (lVar 8) (lFix (mNeg (mC (.int 1)))))))) (gN 9)
    (mIfS (mAnd (mTest (mBin (dIn true) (lVar 9) (lVar 1))) (mAnd (mTest (mBin (dIn true) (lVar 9) (lVar 2))) (mTest (mBin (dIn true) (lVar 9) (lVar 6)))))
    (mSeq (mApp 6 (mVar 9))
    (mApp 5 (mBin dCat (lVar 8) (lFix (mLst (aCons (mVar 9) aNil))))))
    mNext))))
    mNext))
    (mRetF (mLst aNil)))))
theorem b_law_path {c : Pc} (T : Txt c) : BV (c.z 0 n_law_path (defScope s_law_path)) (defBody s_law_path) m_law_path :=
    (bv_cons (sv_asgF (i := 5) rfl (by first | exact Or.inr rfl | exact Or.inl ⟨rfl, Or.inl rfl⟩ | exact Or.inl ⟨rfl, Or.inr rfl⟩) (ef_lst (ae_cons (ef_lst (ae_cons (ev_var (i := 3) rfl (by first | exact Or.inl rfl | exact Or.inr (Or.inl rfl) | exact Or.inr (Or.inr rfl))) ae_nil)).ev ae_nil)))
    (bv_cons (sv_asgF (i := 6) rfl (by first | exact Or.inr rfl | exact Or.inl ⟨rfl, Or.inl rfl⟩ | exact Or.inl ⟨rfl, Or.inr rfl⟩) (ef_lst (ae_cons (ev_var (i := 3) rfl (by first | exact Or.inl rfl | exact Or.inr (Or.inl rfl) | exact Or.inr (Or.inr rfl))) ae_nil)))
    (bv_cons (sv_for (iv_rng1 (by rfl) T.b_range (ae_cons (ev_callB (fun _ h => cr_len h) ok_len (by rfl) T.b_len (by decide +kernel) (al_cons (lv_var (i := 0) rfl (by first | exact Or.inl rfl | exact Or.inr (Or.inl rfl) | exact Or.inr (Or.inr rfl))) al_nil)) ae_nil)) (gv_name (i := 7) rfl (by first | exact Or.inr rfl | exact Or.inl ⟨rfl, Or.inl rfl⟩ | exact Or.inl ⟨rfl, Or.inr rfl⟩))
    (bv_one (sv_if (tv_cmp (fun _ _ => op_lt) ok_cmp (lv_var (i := 7) rfl (by first | exact Or.inl rfl | exact Or.inr (Or.inl rfl) | exact Or.inr (Or.inr rfl))) (lv_ev (ev_callB (fun _ h => cr_len h) ok_len (by rfl) T.b_len (by decide +kernel) (al_cons (lv_var (i := 5) rfl (by first | exact Or.inl rfl | exact Or.inr (Or.inl rfl) | exact Or.inr (Or.inr rfl))) al_nil))) (nomark _))
    (bv_cons (sv_asg (i := 8) rfl (by first | exact Or.inr rfl | exact Or.inl ⟨rfl, Or.inl rfl⟩ | exact Or.inl ⟨rfl, Or.inr rfl⟩) (ev_ix (lv_var (i := 5) rfl (by first | exact Or.inl rfl | exact Or.inr (Or.inl rfl) | exact Or.inr (Or.inr rfl))) (lv_var (i := 7) rfl (by first | exact Or.inl rfl | exact Or.inr (Or.inl rfl) | exact Or.inr (Or.inr rfl)))))
    (bv_cons (sv_if (tv_cmp (fun _ h => or_in h) ok_in (lv_ev (ev_ix (lv_var (i := 8) rfl (by first | exact Or.inl rfl | exact Or.inr (Or.inl rfl) | exact Or.inr (Or.inr rfl))) (lv_ev (ev_neg ev_int)))) (lv_var (i := 4) rfl (by first | exact Or.inl rfl | exact Or.inr (Or.inl rfl) | exact Or.inr (Or.inr rfl))) (by rfl))
    (bv_one (sv_ret (ev_var (i := 8) rfl (by first | exact Or.inl rfl | exact Or.inr (Or.inl rfl) | exact Or.inr (Or.inr rfl)))))
    bv_nil)
    (bv_one (sv_for (iv_any (ev_ix (lv_var (i := 0) rfl (by first | exact Or.inl rfl | exact Or.inr (Or.inl rfl) | exact Or.inr (Or.inr rfl))) (lv_ev (ev_ix (lv_var (i := 8) rfl (by first | exact Or.inl rfl | exact Or.inr (Or.inl rfl) | exact Or.inr (Or.inr rfl))) (lv_ev (ev_neg ev_int)))))) (gv_name (i := 9) rfl (by first | exact Or.inr rfl | exact Or.inl ⟨rfl, Or.inl rfl⟩ | exact Or.inl ⟨rfl, Or.inr rfl⟩))
    (bv_one (sv_if ((wv_and (tv_cmp (fun _ h => or_nin h) ok_nin (lv_var (i := 9) rfl (by first | exact Or.inl rfl | exact Or.inr (Or.inl rfl) | exact Or.inr (Or.inr rfl))) (lv_var (i := 1) rfl (by first | exact Or.inl rfl | exact Or.inr (Or.inl rfl) | exact Or.inr (Or.inr rfl))) (by rfl)) (wv_and (tv_cmp (fun _ h => or_nin h) ok_nin (lv_var (i := 9) rfl (by first | exact Or.inl rfl | exact Or.inr (Or.inl rfl) | exact Or.inr (Or.inr rfl))) (lv_var (i := 2) rfl (by first | exact Or.inl rfl | exact Or.inr (Or.inl rfl) | exact Or.inr (Or.inr rfl))) (by rfl)) (wv_and1 (tv_cmp (fun _ h => or_nin h) ok_nin (lv_var (i := 9) rfl (by first | exact Or.inl rfl | exact Or.inr (Or.inl rfl) | exact Or.inr (Or.inr rfl))) (lv_var (i := 6) rfl (by first | exact Or.inl rfl | exact Or.inr (Or.inl rfl) | exact Or.inr (Or.inr rfl))) (by rfl)))))).tv
    (bv_cons (sv_append (i := 6) rfl (by first | exact Or.inl rfl | exact Or.inr (Or.inl rfl) | exact Or.inr (Or.inr rfl)) (ev_var (i := 9) rfl (by first | exact Or.inl rfl | exact Or.inr (Or.inl rfl) | exact Or.inr (Or.inr rfl))))
    (bv_one (sv_append (i := 5) rfl (by first | exact Or.inl rfl | exact Or.inr (Or.inl rfl) | exact Or.inr (Or.inr rfl)) (ef_op (fun _ _ => op_cat) ok_cat (lv_var (i := 8) rfl (by first | exact Or.inl rfl | exact Or.inr (Or.inl rfl) | exact Or.inr (Or.inr rfl))) (lv_ev (ef_lst (ae_cons (ev_var (i := 9) rfl (by first | exact Or.inl rfl | exact Or.inr (Or.inl rfl) | exact Or.inr (Or.inr rfl))) ae_nil)).ev)).ev)))
    bv_nil))))))
    bv_nil)))
    (bv_one (sv_retF (ef_lst ae_nil))))))
theorem g_law_path {c : Pc} {f : Addr} {fd : FuncData} (T : Txt c) (F : Fun c.K "_law_path" "_law_path" s_law_path f fd) (hm : c.mg "_law_path" = some (.ref f)) : FnC c 1 "_law_path" n_law_path 5 m_law_path :=
  ⟨f, fd, ["near", "closed", "used", "start", "doors"], fn_ok F sc_law_path (b_law_path T), hm, F.kp, F.binds (ps := ["near", "closed", "used", "start", "doors"]) fun _ _ _ _ _ _ us hl => match us, hl with | [_, _, _, _, _], _ => rfl⟩
/-! _law_greedy -/
abbrev s_law_greedy : Stmt := top 37
abbrev n_law_greedy : List Str := ["near", "closed", "doors", "starts", "ways", "used", "cell", "way"]
theorem sc_law_greedy : FnScope n_law_greedy ["near", "closed", "doors", "starts"] (defScope s_law_greedy) := ⟨rfl, rfl, rfl, by decide +kernel, rfl, by decide +kernel, by decide +kernel⟩
def m_law_greedy : MS :=
    (mSeq (mAsgF 4 (mLst aNil))
    (mSeq (mAsg 5 (mLst aNil))
    (mSeq (mForS (iAny (mVar 3)) (gN 6)
    (mIfS (mAnd (mTest (mBin (dIn true) (lVar 6) (lVar 1))) (mTest (mBin (dIn true) (lVar 6) (lVar 5))))
    (mSeq (mAsg 7 (mCallV n_law_path 5 m_law_path (cBor 0 (cBor 1 (cBor 5 (cImm (mVar 6) (cBor 2 cNil)))))))
    (mIfS (mTest (mBin dGt (lFix (mBi dLen (bCons (lVar 7) bNil))) (lFix (mC (.int 0)))))
    (mSeq (mApp 4 (mVar 7))
    (mAsg 5 (mBin dCat (lVar 5) (lVar 7))))
    mNext))
    mNext))
    (mRetO 4))))
theorem b_law_greedy {c : Pc} (T : Txt c) (G_law_path : FnC c 1 "_law_path" n_law_path 5 m_law_path) : BV (c.z 1 n_law_greedy (defScope s_law_greedy)) (defBody s_law_greedy) m_law_greedy :=
    (bv_cons (sv_asgF (i := 4) rfl (by first | exact Or.inr rfl | exact Or.inl ⟨rfl, Or.inl rfl⟩ | exact Or.inl ⟨rfl, Or.inr rfl⟩) (ef_lst ae_nil))
    (bv_cons (sv_asg (i := 5) rfl (by first | exact Or.inr rfl | exact Or.inl ⟨rfl, Or.inl rfl⟩ | exact Or.inl ⟨rfl, Or.inr rfl⟩) (ef_lst ae_nil).ev)
    (bv_cons (sv_for (iv_any (ev_var (i := 3) rfl (by first | exact Or.inl rfl | exact Or.inr (Or.inl rfl) | exact Or.inr (Or.inr rfl)))) (gv_name (i := 6) rfl (by first | exact Or.inr rfl | exact Or.inl ⟨rfl, Or.inl rfl⟩ | exact Or.inl ⟨rfl, Or.inr rfl⟩))
    (bv_one (sv_if ((wv_and (tv_cmp (fun _ h => or_nin h) ok_nin (lv_var (i := 6) rfl (by first | exact Or.inl rfl | exact Or.inr (Or.inl rfl) | exact Or.inr (Or.inr rfl))) (lv_var (i := 1) rfl (by first | exact Or.inl rfl | exact Or.inr (Or.inl rfl) | exact Or.inr (Or.inr rfl))) (by rfl)) (wv_and1 (tv_cmp (fun _ h => or_nin h) ok_nin (lv_var (i := 6) rfl (by first | exact Or.inl rfl | exact Or.inr (Or.inl rfl) | exact Or.inr (Or.inr rfl))) (lv_var (i := 5) rfl (by first | exact Or.inl rfl | exact Or.inr (Or.inl rfl) | exact Or.inr (Or.inr rfl))) (by rfl))))).tv
    (bv_cons (sv_asg (i := 7) rfl (by first | exact Or.inr rfl | exact Or.inl ⟨rfl, Or.inl rfl⟩ | exact Or.inl ⟨rfl, Or.inr rfl⟩) (ev_call (G_law_path.z (by decide)) (by rfl) (av_bor (i := 0) rfl (by first | exact Or.inl rfl | exact Or.inr (Or.inl rfl) | exact Or.inr (Or.inr rfl)) (av_bor (i := 1) rfl (by first | exact Or.inl rfl | exact Or.inr (Or.inl rfl) | exact Or.inr (Or.inr rfl)) (av_bor (i := 5) rfl (by first | exact Or.inl rfl | exact Or.inr (Or.inl rfl) | exact Or.inr (Or.inr rfl)) (av_imm (ev_var (i := 6) rfl (by first | exact Or.inl rfl | exact Or.inr (Or.inl rfl) | exact Or.inr (Or.inr rfl))) (av_bor (i := 2) rfl (by first | exact Or.inl rfl | exact Or.inr (Or.inl rfl) | exact Or.inr (Or.inr rfl)) av_nil)))))))
    (bv_one (sv_if (tv_cmp (fun _ _ => op_gt) ok_cmp (lv_ev (ev_callB (fun _ h => cr_len h) ok_len (by rfl) T.b_len (by decide +kernel) (al_cons (lv_var (i := 7) rfl (by first | exact Or.inl rfl | exact Or.inr (Or.inl rfl) | exact Or.inr (Or.inr rfl))) al_nil))) (lv_ev ev_int) (nomark _))
    (bv_cons (sv_append (i := 4) rfl (by first | exact Or.inl rfl | exact Or.inr (Or.inl rfl) | exact Or.inr (Or.inr rfl)) (ev_var (i := 7) rfl (by first | exact Or.inl rfl | exact Or.inr (Or.inl rfl) | exact Or.inr (Or.inr rfl))))
    (bv_one (sv_asg (i := 5) rfl (by first | exact Or.inr rfl | exact Or.inl ⟨rfl, Or.inl rfl⟩ | exact Or.inl ⟨rfl, Or.inr rfl⟩) (ef_op (fun _ _ => op_cat) ok_cat (lv_var (i := 5) rfl (by first | exact Or.inl rfl | exact Or.inr (Or.inl rfl) | exact Or.inr (Or.inr rfl))) (lv_var (i := 7) rfl (by first | exact Or.inl rfl | exact Or.inr (Or.inl rfl) | exact Or.inr (Or.inr rfl)))).ev)))
    bv_nil)))
    bv_nil)))
    (bv_one (sv_retO (i := 4) rfl (by first | exact Or.inl rfl | exact Or.inr (Or.inl rfl) | exact Or.inr (Or.inr rfl)))))))
theorem g_law_greedy {c : Pc} {f : Addr} {fd : FuncData} (T : Txt c) (F : Fun c.K "_law_greedy" "_law_greedy" s_law_greedy f fd) (hm : c.mg "_law_greedy" = some (.ref f)) (G_law_path : FnC c 1 "_law_path" n_law_path 5 m_law_path) : FnC c 2 "_law_greedy" n_law_greedy 4 m_law_greedy :=
  ⟨f, fd, ["near", "closed", "doors", "starts"], fn_ok F sc_law_greedy (b_law_greedy T G_law_path), hm, F.kp, F.binds (ps := ["near", "closed", "doors", "starts"]) fun _ _ _ _ _ _ us hl => match us, hl with | [_, _, _, _], _ => rfl⟩
/-! links_of -/
abbrev s_links_of : Stmt := top 2
abbrev n_links_of : List Str := ["ways", "way", "link"]
theorem sc_links_of : FnScope n_links_of ["ways"] (defScope s_links_of) := ⟨rfl, rfl, rfl, by decide +kernel, rfl, by decide +kernel, by decide +kernel⟩
def m_links_of : MS :=
    (mRetF (mLc2 [1, 2] [2] (iAny (mVar 0)) (gN 1) mYes (iZp (aCons (mVar 1) (aCons (mSl dSlL (lVar 1) (oSome (mC (.int 1))) oNone) aNil))) (gN 2) mYes (mVar 2)))
theorem b_links_of {c : Pc} (T : Txt c) : BV (c.z 0 n_links_of (defScope s_links_of)) (defBody s_links_of) m_links_of :=
    (bv_one (sv_retF (ef_lc2 (own := ([("way", 1), ("link", 2)] : List (Str × Nat))) (vs1 := [2]) (hi := (iv_any (ev_var (i := 0) rfl (by first | exact Or.inl rfl | exact Or.inr (Or.inl rfl) | exact Or.inr (Or.inr rfl))))) (ok := (blkOk_by (N := n_links_of) (sc := defScope s_links_of) (own := ([("way", 1), ("link", 2)] : List (Str × Nat))) (by decide +kernel))) (hg := (gv_name (i := 1) rfl (by first | exact Or.inr rfl | exact Or.inl ⟨rfl, Or.inl rfl⟩ | exact Or.inl ⟨rfl, Or.inr rfl⟩))) (ht := cv_nil) (hi1 := (iv_zipN (by rfl) T.b_zip (ae_cons (ev_var (i := 1) rfl (by first | exact Or.inl rfl | exact Or.inr (Or.inl rfl) | exact Or.inr (Or.inr rfl))) (ae_cons (ef_slL (lv_var (i := 1) rfl (by first | exact Or.inl rfl | exact Or.inr (Or.inl rfl) | exact Or.inr (Or.inr rfl))) (ov_some ev_int) ov_none).ev ae_nil)))) (hg1 := (gv_name (i := 2) rfl (by first | exact Or.inr rfl | exact Or.inl ⟨rfl, Or.inl rfl⟩ | exact Or.inl ⟨rfl, Or.inr rfl⟩))) (ht1 := cv_nil) (he := (ev_var (i := 2) rfl (by first | exact Or.inl rfl | exact Or.inr (Or.inl rfl) | exact Or.inr (Or.inr rfl)))))))
theorem g_links_of {c : Pc} {f : Addr} {fd : FuncData} (T : Txt c) (F : Fun c.K "links_of" "links_of" s_links_of f fd) (hm : c.mg "links_of" = some (.ref f)) : FnC c 1 "links_of" n_links_of 1 m_links_of :=
  ⟨f, fd, ["ways"], fn_ok F sc_links_of (b_links_of T), hm, F.kp, F.binds (ps := ["ways"]) fun _ _ _ _ _ _ us hl => match us, hl with | [_], _ => rfl⟩
/-! ahead_table -/
abbrev s_ahead_table : Stmt := top 10
abbrev n_ahead_table : List Str := ["ways", "table", "way", "before", "cell"]
theorem sc_ahead_table : FnScope n_ahead_table ["ways"] (defScope s_ahead_table) := ⟨rfl, rfl, rfl, by decide +kernel, rfl, by decide +kernel, by decide +kernel⟩
def m_ahead_table : MS :=
    (mSeq (mAsgF 1 mDic0)
    (mSeq (mForS (iAny (mVar 0)) (gN 2)
    (mSeq (mAsg 3 (mC .non))
    (mForS (iAny (mVar 2)) (gN 4)
    (mSeq (mSetD 1 (mVar 3) (mVar 4))
    (mAsg 3 (mVar 4))))))
    (mRetO 1)))
theorem b_ahead_table {c : Pc} (T : Txt c) : BV (c.z 0 n_ahead_table (defScope s_ahead_table)) (defBody s_ahead_table) m_ahead_table :=
    (bv_cons (sv_asgF (i := 1) rfl (by first | exact Or.inr rfl | exact Or.inl ⟨rfl, Or.inl rfl⟩ | exact Or.inl ⟨rfl, Or.inr rfl⟩) (ef_dic0))
    (bv_cons (sv_for (iv_any (ev_var (i := 0) rfl (by first | exact Or.inl rfl | exact Or.inr (Or.inl rfl) | exact Or.inr (Or.inr rfl)))) (gv_name (i := 2) rfl (by first | exact Or.inr rfl | exact Or.inl ⟨rfl, Or.inl rfl⟩ | exact Or.inl ⟨rfl, Or.inr rfl⟩))
    (bv_cons (sv_asg (i := 3) rfl (by first | exact Or.inr rfl | exact Or.inl ⟨rfl, Or.inl rfl⟩ | exact Or.inl ⟨rfl, Or.inr rfl⟩) ev_non)
    (bv_one (sv_for (iv_any (ev_var (i := 2) rfl (by first | exact Or.inl rfl | exact Or.inr (Or.inl rfl) | exact Or.inr (Or.inr rfl)))) (gv_name (i := 4) rfl (by first | exact Or.inr rfl | exact Or.inl ⟨rfl, Or.inl rfl⟩ | exact Or.inl ⟨rfl, Or.inr rfl⟩))
    (bv_cons (sv_setD (i := 1) rfl (by first | exact Or.inl rfl | exact Or.inr (Or.inl rfl) | exact Or.inr (Or.inr rfl)) (ev_var (i := 3) rfl (by first | exact Or.inl rfl | exact Or.inr (Or.inl rfl) | exact Or.inr (Or.inr rfl))) (ev_var (i := 4) rfl (by first | exact Or.inl rfl | exact Or.inr (Or.inl rfl) | exact Or.inr (Or.inr rfl))))
    (bv_one (sv_asg (i := 3) rfl (by first | exact Or.inr rfl | exact Or.inl ⟨rfl, Or.inl rfl⟩ | exact Or.inl ⟨rfl, Or.inr rfl⟩) (ev_var (i := 4) rfl (by first | exact Or.inl rfl | exact Or.inr (Or.inl rfl) | exact Or.inr (Or.inr rfl))))))))))
    (bv_one (sv_retO (i := 1) rfl (by first | exact Or.inl rfl | exact Or.inr (Or.inl rfl) | exact Or.inr (Or.inr rfl))))))
theorem g_ahead_table {c : Pc} {f : Addr} {fd : FuncData} (T : Txt c) (F : Fun c.K "ahead_table" "ahead_table" s_ahead_table f fd) (hm : c.mg "ahead_table" = some (.ref f)) : FnC c 1 "ahead_table" n_ahead_table 1 m_ahead_table :=
  ⟨f, fd, ["ways"], fn_ok F sc_ahead_table (b_ahead_table T), hm, F.kp, F.binds (ps := ["ways"]) fun _ _ _ _ _ _ us hl => match us, hl with | [_], _ => rfl⟩
/-! next_spots -/
abbrev s_next_spots : Stmt := top 11
abbrev n_next_spots : List Str := ["floor", "closed", "table", "spot", "cell", "outward", "spots", "other"]
theorem sc_next_spots : FnScope n_next_spots ["floor", "closed", "table", "spot"] (defScope s_next_spots) := ⟨rfl, rfl, rfl, by decide +kernel, rfl, by decide +kernel, by decide +kernel⟩
def m_next_spots : MS :=
    (mSeq (mAsgG (gT 2 (gsCons (gN 4) (gsCons (gN 5) gsNil))) (mVar 3))
    (mSeq (mIfS (mTru (lVar 5))
    (mSeq (mAsgF 6 (mLc [7] (iAny (mBin dIx (lFix (mFld "Floor" "near" (lVar 0))) (lVar 4))) (gN 7) (mTest (mBin (dIn true) (lVar 7) (lVar 1))) (mTup (aCons (mVar 7) (aCons (mC (.bl false)) aNil)))))
    (mSeq (mIfS (mTest (mBin (dInD false) (lVar 4) (lVar 2)))
    (mApp 6 (mTup (aCons (mVar 4) (aCons (mC (.bl false)) aNil))))
    mNext)
    (mRetO 6)))
    mNext)
    (mSeq (mIfS (mTest (mBin (dInD true) (lVar 4) (lVar 2)))
    (mRetF (mLst (aCons (mTup (aCons (mVar 4) (aCons (mC (.bl true)) aNil))) aNil)))
    mNext)
    (mSeq (mIfS (mTest (mBin (dIs false) (lFix (mBin dGet (lVar 2) (lVar 4))) (lFix (mC .non))))
    (mRetF (mLst aNil))
    mNext)
    (mRetF (mLst (aCons (mTup (aCons (mBin dGet (lVar 2) (lVar 4)) (aCons (mC (.bl true)) aNil))) aNil)))))))
theorem b_next_spots {c : Pc} (T : Txt c) : BV (c.z 0 n_next_spots (defScope s_next_spots)) (defBody s_next_spots) m_next_spots :=
    (bv_cons (sv_asgG (gv_tup (gvs_cons (gv_name (i := 4) rfl (by first | exact Or.inr rfl | exact Or.inl ⟨rfl, Or.inl rfl⟩ | exact Or.inl ⟨rfl, Or.inr rfl⟩)) (gvs_cons (gv_name (i := 5) rfl (by first | exact Or.inr rfl | exact Or.inl ⟨rfl, Or.inl rfl⟩ | exact Or.inl ⟨rfl, Or.inr rfl⟩)) gvs_nil))) (ev_var (i := 3) rfl (by first | exact Or.inl rfl | exact Or.inr (Or.inl rfl) | exact Or.inr (Or.inr rfl))))
    (bv_cons (sv_if (tv_tru (lv_var (i := 5) rfl (by first | exact Or.inl rfl | exact Or.inr (Or.inl rfl) | exact Or.inr (Or.inr rfl))))
    (bv_cons (sv_asgLc (i := 6) (own := ([("other", 7)] : List (Str × Nat))) rfl rfl rfl (iv_any (ev_ix (lv_ev (ev_fld (c := "Floor") (lv_var (i := 0) rfl (by first | exact Or.inl rfl | exact Or.inr (Or.inl rfl) | exact Or.inr (Or.inr rfl))) T.f_Floor_near)) (lv_var (i := 4) rfl (by first | exact Or.inl rfl | exact Or.inr (Or.inl rfl) | exact Or.inr (Or.inr rfl))))) (blkOk_by (N := n_next_spots) (sc := defScope s_next_spots) (own := ([("other", 7)] : List (Str × Nat))) (by decide +kernel)) (gv_name (i := 7) rfl (by first | exact Or.inr rfl | exact Or.inl ⟨rfl, Or.inl rfl⟩ | exact Or.inl ⟨rfl, Or.inr rfl⟩)) (cv_one (tv_cmp (fun _ h => or_nin h) ok_nin (lv_var (i := 7) rfl (by first | exact Or.inl rfl | exact Or.inr (Or.inl rfl) | exact Or.inr (Or.inr rfl))) (lv_var (i := 1) rfl (by first | exact Or.inl rfl | exact Or.inr (Or.inl rfl) | exact Or.inr (Or.inr rfl))) (by rfl))) (ev_tup (ae_cons (ev_var (i := 7) rfl (by first | exact Or.inl rfl | exact Or.inr (Or.inl rfl) | exact Or.inr (Or.inr rfl))) (ae_cons ev_bl ae_nil))) (hl := by rfl) (ha := by decide +kernel))
    (bv_cons (sv_if (tv_inD (lv_var (i := 4) rfl (by first | exact Or.inl rfl | exact Or.inr (Or.inl rfl) | exact Or.inr (Or.inr rfl))) (lv_var (i := 2) rfl (by first | exact Or.inl rfl | exact Or.inr (Or.inl rfl) | exact Or.inr (Or.inr rfl))))
    (bv_one (sv_append (i := 6) rfl (by first | exact Or.inl rfl | exact Or.inr (Or.inl rfl) | exact Or.inr (Or.inr rfl)) (ev_tup (ae_cons (ev_var (i := 4) rfl (by first | exact Or.inl rfl | exact Or.inr (Or.inl rfl) | exact Or.inr (Or.inr rfl))) (ae_cons ev_bl ae_nil)))))
    bv_nil)
    (bv_one (sv_retO (i := 6) rfl (by first | exact Or.inl rfl | exact Or.inr (Or.inl rfl) | exact Or.inr (Or.inr rfl))))))
    bv_nil)
    (bv_cons (sv_if (tv_ninD (lv_var (i := 4) rfl (by first | exact Or.inl rfl | exact Or.inr (Or.inl rfl) | exact Or.inr (Or.inr rfl))) (lv_var (i := 2) rfl (by first | exact Or.inl rfl | exact Or.inr (Or.inl rfl) | exact Or.inr (Or.inr rfl))))
    (bv_one (sv_retF (ef_lst (ae_cons (ev_tup (ae_cons (ev_var (i := 4) rfl (by first | exact Or.inl rfl | exact Or.inr (Or.inl rfl) | exact Or.inr (Or.inr rfl))) (ae_cons ev_bl ae_nil))) ae_nil))))
    bv_nil)
    (bv_cons (sv_if (tv_cmp (fun _ _ => op_isN) ok_is (lv_ev (ev_dget (lv_var (i := 2) rfl (by first | exact Or.inl rfl | exact Or.inr (Or.inl rfl) | exact Or.inr (Or.inr rfl))) (lv_var (i := 4) rfl (by first | exact Or.inl rfl | exact Or.inr (Or.inl rfl) | exact Or.inr (Or.inr rfl))))) (lv_ev ev_non) (nomark _))
    (bv_one (sv_retF (ef_lst ae_nil)))
    bv_nil)
    (bv_one (sv_retF (ef_lst (ae_cons (ev_tup (ae_cons (ev_dget (lv_var (i := 2) rfl (by first | exact Or.inl rfl | exact Or.inr (Or.inl rfl) | exact Or.inr (Or.inr rfl))) (lv_var (i := 4) rfl (by first | exact Or.inl rfl | exact Or.inr (Or.inl rfl) | exact Or.inr (Or.inr rfl)))) (ae_cons ev_bl ae_nil))) ae_nil))))))))
theorem g_next_spots {c : Pc} {f : Addr} {fd : FuncData} (T : Txt c) (F : Fun c.K "next_spots" "next_spots" s_next_spots f fd) (hm : c.mg "next_spots" = some (.ref f)) : FnC c 1 "next_spots" n_next_spots 4 m_next_spots :=
  ⟨f, fd, ["floor", "closed", "table", "spot"], fn_ok F sc_next_spots (b_next_spots T), hm, F.kp, F.binds (ps := ["floor", "closed", "table", "spot"]) fun _ _ _ _ _ _ us hl => match us, hl with | [_, _, _, _], _ => rfl⟩
/-! explore -/
abbrev s_explore : Stmt := top 12
abbrev n_explore : List Str := ["floor", "closed", "ways", "starts", "table", "spots", "parents", "seen", "taken", "further", "spot", "cell", "_"]
theorem sc_explore : FnScope n_explore ["floor", "closed", "ways", "starts"] (defScope s_explore) := ⟨rfl, rfl, rfl, by decide +kernel, rfl, by decide +kernel, by decide +kernel⟩
def fuel_explore : En → Nat := fun _ => 10000
def m_explore : MS :=
    (mSeq (mAsg 4 (mCallV n_ahead_table 1 m_ahead_table (cImm (mVar 2) cNil)))
    (mSeq (mAsgF 5 (mLc [11] (iAny (mBi dSetSort (bCons (lVar 3) bNil))) (gN 11) (mTest (mBin (dIn true) (lVar 11) (lVar 1))) (mTup (aCons (mVar 11) (aCons (mC (.bl false)) aNil)))))
    (mSeq (mAsgF 6 (mLcP 5 [12] (gN 12) mYes (mC .non)))
    (mSeq (mAsgF 7 (mDnP 5 [10] (gN 10) mYes (mVar 10) (mC (.bl true))))
    (mSeq (mAsg 8 (mC (.int 0)))
    (mSeq (mWh fuel_explore (mTest (mBin dLt (lVar 8) (lFix (mBi dLen (bCons (lVar 5) bNil)))))
    (mSeq (mAsg 9 (mCallV n_next_spots 4 m_next_spots (cBor 0 (cBor 1 (cBor 4 (cImm (mBin dIx (lVar 5) (lVar 8)) cNil))))))
    (mSeq (mForS (iAny (mVar 9)) (gN 10)
    (mIfS (mTest (mBin (dInN true) (lVar 10) (lVar 7)))
    (mSeq (mSetN 7 (mC (.bl true)) (mVar 10))
    (mSeq (mApp 5 (mVar 10))
    (mApp 6 (mVar 8))))
    mNext))
    (mAug (fun i j => i + j) 8 (mC (.int 1))))))
    (mRet (mTup (aCons (mVar 5) (aCons (mVar 6) aNil))))))))))
theorem b_explore {c : Pc} (T : Txt c) (G_ahead_table : FnC c 1 "ahead_table" n_ahead_table 1 m_ahead_table) (G_next_spots : FnC c 1 "next_spots" n_next_spots 4 m_next_spots) : BV (c.z 1 n_explore (defScope s_explore)) (defBody s_explore) m_explore :=
    (bv_cons (sv_asg (i := 4) rfl (by first | exact Or.inr rfl | exact Or.inl ⟨rfl, Or.inl rfl⟩ | exact Or.inl ⟨rfl, Or.inr rfl⟩) (ev_call (G_ahead_table.z (by decide)) (by rfl) (av_imm (ev_var (i := 2) rfl (by first | exact Or.inl rfl | exact Or.inr (Or.inl rfl) | exact Or.inr (Or.inr rfl))) av_nil)))
    (bv_cons (sv_asgLc (i := 5) (own := ([("cell", 11)] : List (Str × Nat))) rfl rfl rfl (iv_any (ef_setSort (by rfl) T.b_sorted (by rfl) T.b_set (lv_var (i := 3) rfl (by first | exact Or.inl rfl | exact Or.inr (Or.inl rfl) | exact Or.inr (Or.inr rfl)))).ev) (blkOk_by (N := n_explore) (sc := defScope s_explore) (own := ([("cell", 11)] : List (Str × Nat))) (by decide +kernel)) (gv_name (i := 11) rfl (by first | exact Or.inr rfl | exact Or.inl ⟨rfl, Or.inl rfl⟩ | exact Or.inl ⟨rfl, Or.inr rfl⟩)) (cv_one (tv_cmp (fun _ h => or_nin h) ok_nin (lv_var (i := 11) rfl (by first | exact Or.inl rfl | exact Or.inr (Or.inl rfl) | exact Or.inr (Or.inr rfl))) (lv_var (i := 1) rfl (by first | exact Or.inl rfl | exact Or.inr (Or.inl rfl) | exact Or.inr (Or.inr rfl))) (by rfl))) (ev_tup (ae_cons (ev_var (i := 11) rfl (by first | exact Or.inl rfl | exact Or.inr (Or.inl rfl) | exact Or.inr (Or.inr rfl))) (ae_cons ev_bl ae_nil))) (hl := by rfl) (ha := by decide +kernel))
    (bv_cons (sv_asgLcP (i := 6) (w := 5) (own := ([("_", 12)] : List (Str × Nat))) rfl rfl rfl (hNw := rfl) (hvw := (by first | exact Or.inl rfl | exact Or.inr (Or.inl rfl) | exact Or.inr (Or.inr rfl))) (ok := (blkOk_by (N := n_explore) (sc := defScope s_explore) (own := ([("_", 12)] : List (Str × Nat))) (by decide +kernel))) (hg := (gv_name (i := 12) rfl (by first | exact Or.inr rfl | exact Or.inl ⟨rfl, Or.inl rfl⟩ | exact Or.inl ⟨rfl, Or.inr rfl⟩))) (ht := cv_nil) (he := ev_non) (hl := by rfl) (ha := by decide +kernel))
    (bv_cons (sv_asgDnP (i := 7) (w := 5) (own := ([("spot", 10)] : List (Str × Nat))) rfl rfl rfl (hNw := rfl) (hvw := (by first | exact Or.inl rfl | exact Or.inr (Or.inl rfl) | exact Or.inr (Or.inr rfl))) (ok := (blkOk_by (N := n_explore) (sc := defScope s_explore) (own := ([("spot", 10)] : List (Str × Nat))) (by decide +kernel))) (hg := (gv_name (i := 10) rfl (by first | exact Or.inr rfl | exact Or.inl ⟨rfl, Or.inl rfl⟩ | exact Or.inl ⟨rfl, Or.inr rfl⟩))) (ht := cv_nil) (hkx := (ev_var (i := 10) rfl (by first | exact Or.inl rfl | exact Or.inr (Or.inl rfl) | exact Or.inr (Or.inr rfl)))) (hvx := ev_bl) (hl := by rfl) (ha := by decide +kernel))
    (bv_cons (sv_asg (i := 8) rfl (by first | exact Or.inr rfl | exact Or.inl ⟨rfl, Or.inl rfl⟩ | exact Or.inl ⟨rfl, Or.inr rfl⟩) ev_int)
    (bv_cons (sv_while fuel_explore (tv_cmp (fun _ _ => op_lt) ok_cmp (lv_var (i := 8) rfl (by first | exact Or.inl rfl | exact Or.inr (Or.inl rfl) | exact Or.inr (Or.inr rfl))) (lv_ev (ev_callB (fun _ h => cr_len h) ok_len (by rfl) T.b_len (by decide +kernel) (al_cons (lv_var (i := 5) rfl (by first | exact Or.inl rfl | exact Or.inr (Or.inl rfl) | exact Or.inr (Or.inr rfl))) al_nil))) (nomark _))
    (bv_cons (sv_asg (i := 9) rfl (by first | exact Or.inr rfl | exact Or.inl ⟨rfl, Or.inl rfl⟩ | exact Or.inl ⟨rfl, Or.inr rfl⟩) (ev_call (G_next_spots.z (by decide)) (by rfl) (av_bor (i := 0) rfl (by first | exact Or.inl rfl | exact Or.inr (Or.inl rfl) | exact Or.inr (Or.inr rfl)) (av_bor (i := 1) rfl (by first | exact Or.inl rfl | exact Or.inr (Or.inl rfl) | exact Or.inr (Or.inr rfl)) (av_bor (i := 4) rfl (by first | exact Or.inl rfl | exact Or.inr (Or.inl rfl) | exact Or.inr (Or.inr rfl)) (av_imm (ev_ix (lv_var (i := 5) rfl (by first | exact Or.inl rfl | exact Or.inr (Or.inl rfl) | exact Or.inr (Or.inr rfl))) (lv_var (i := 8) rfl (by first | exact Or.inl rfl | exact Or.inr (Or.inl rfl) | exact Or.inr (Or.inr rfl)))) av_nil))))))
    (bv_cons (sv_for (iv_any (ev_var (i := 9) rfl (by first | exact Or.inl rfl | exact Or.inr (Or.inl rfl) | exact Or.inr (Or.inr rfl)))) (gv_name (i := 10) rfl (by first | exact Or.inr rfl | exact Or.inl ⟨rfl, Or.inl rfl⟩ | exact Or.inl ⟨rfl, Or.inr rfl⟩))
    (bv_one (sv_if (tv_cmp (fun _ h => or_nNin h) ok_inN (lv_var (i := 10) rfl (by first | exact Or.inl rfl | exact Or.inr (Or.inl rfl) | exact Or.inr (Or.inr rfl))) (lv_var (i := 7) rfl (by first | exact Or.inl rfl | exact Or.inr (Or.inl rfl) | exact Or.inr (Or.inr rfl))) (by rfl))
    (bv_cons (sv_setN (i := 7) rfl (by first | exact Or.inl rfl | exact Or.inr (Or.inl rfl) | exact Or.inr (Or.inr rfl)) ev_bl (ev_var (i := 10) rfl (by first | exact Or.inl rfl | exact Or.inr (Or.inl rfl) | exact Or.inr (Or.inr rfl))))
    (bv_cons (sv_append (i := 5) rfl (by first | exact Or.inl rfl | exact Or.inr (Or.inl rfl) | exact Or.inr (Or.inr rfl)) (ev_var (i := 10) rfl (by first | exact Or.inl rfl | exact Or.inr (Or.inl rfl) | exact Or.inr (Or.inr rfl))))
    (bv_one (sv_append (i := 6) rfl (by first | exact Or.inl rfl | exact Or.inr (Or.inl rfl) | exact Or.inr (Or.inr rfl)) (ev_var (i := 8) rfl (by first | exact Or.inl rfl | exact Or.inr (Or.inl rfl) | exact Or.inr (Or.inr rfl)))))))
    bv_nil)))
    (bv_one (sv_aug (i := 8) (fun _ _ => ip_add) rfl (by first | exact Or.inr rfl | exact Or.inl ⟨rfl, Or.inl rfl⟩ | exact Or.inl ⟨rfl, Or.inr rfl⟩) ev_int)))))
    (bv_one (sv_ret (ev_tup (ae_cons (ev_var (i := 5) rfl (by first | exact Or.inl rfl | exact Or.inr (Or.inl rfl) | exact Or.inr (Or.inr rfl))) (ae_cons (ev_var (i := 6) rfl (by first | exact Or.inl rfl | exact Or.inr (Or.inl rfl) | exact Or.inr (Or.inr rfl))) ae_nil)))))))))))
theorem g_explore {c : Pc} {f : Addr} {fd : FuncData} (T : Txt c) (F : Fun c.K "explore" "explore" s_explore f fd) (hm : c.mg "explore" = some (.ref f)) (G_ahead_table : FnC c 1 "ahead_table" n_ahead_table 1 m_ahead_table) (G_next_spots : FnC c 1 "next_spots" n_next_spots 4 m_next_spots) : FnC c 2 "explore" n_explore 4 m_explore :=
  ⟨f, fd, ["floor", "closed", "ways", "starts"], fn_ok F sc_explore (b_explore T G_ahead_table G_next_spots), hm, F.kp, F.binds (ps := ["floor", "closed", "ways", "starts"]) fun _ _ _ _ _ _ us hl => match us, hl with | [_, _, _, _], _ => rfl⟩
/-! _law_cell -/
abbrev s_law_cell : Stmt := top 15
abbrev n_law_cell : List Str := ["script", "k"]
theorem sc_law_cell : FnScope n_law_cell ["script", "k"] (defScope s_law_cell) := ⟨rfl, rfl, rfl, by decide +kernel, rfl, by decide +kernel, by decide +kernel⟩
def m_law_cell : MS :=
    (mSeq (mIfS (mTest (mBin dLt (lVar 1) (lFix (mBi dLen (bCons (lVar 0) bNil)))))
    (mRet (mBin dIx (lVar 0) (lVar 1)))
    mNext)
    (mRet (mC (.int 0))))
theorem b_law_cell {c : Pc} (T : Txt c) : BV (c.z 0 n_law_cell (defScope s_law_cell)) (defBody s_law_cell) m_law_cell :=
    (bv_cons (sv_if (tv_cmp (fun _ _ => op_lt) ok_cmp (lv_var (i := 1) rfl (by first | exact Or.inl rfl | exact Or.inr (Or.inl rfl) | exact Or.inr (Or.inr rfl))) (lv_ev (ev_callB (fun _ h => cr_len h) ok_len (by rfl) T.b_len (by decide +kernel) (al_cons (lv_var (i := 0) rfl (by first | exact Or.inl rfl | exact Or.inr (Or.inl rfl) | exact Or.inr (Or.inr rfl))) al_nil))) (nomark _))
    (bv_one (sv_ret (ev_ix (lv_var (i := 0) rfl (by first | exact Or.inl rfl | exact Or.inr (Or.inl rfl) | exact Or.inr (Or.inr rfl))) (lv_var (i := 1) rfl (by first | exact Or.inl rfl | exact Or.inr (Or.inl rfl) | exact Or.inr (Or.inr rfl))))))
    bv_nil)
    (bv_one (sv_ret ev_int)))
theorem g_law_cell {c : Pc} {f : Addr} {fd : FuncData} (T : Txt c) (F : Fun c.K "_law_cell" "_law_cell" s_law_cell f fd) (hm : c.mg "_law_cell" = some (.ref f)) : FnC c 1 "_law_cell" n_law_cell 2 m_law_cell :=
  ⟨f, fd, ["script", "k"], fn_ok F sc_law_cell (b_law_cell T), hm, F.kp, F.binds (ps := ["script", "k"]) fun _ _ _ _ _ _ us hl => match us, hl with | [_, _], _ => rfl⟩
/-! _law_digits -/
abbrev s_law_digits : Stmt := top 16
abbrev n_law_digits : List Str := ["script", "first", "last", "digits", "k", "cell", "turn", "seed"]
theorem sc_law_digits : FnScope n_law_digits ["script", "first", "last"] (defScope s_law_digits) := ⟨rfl, rfl, rfl, by decide +kernel, rfl, by decide +kernel, by decide +kernel⟩
def m_law_digits : MS :=
    (mSeq (mAsgF 3 (mLst aNil))
    (mSeq (mForS (iR2 (aCons (mVar 1) (aCons (mVar 2) aNil))) (gN 4)
    (mSeq (mAsg 5 (mCallV n_law_cell 2 m_law_cell (cImm (mVar 0) (cImm (mVar 4) cNil))))
    (mSeq (mIfS (mTest (mBin dLt (lVar 5) (lFix (mC (.int 0)))))
    (mAsg 5 (mBin dSub (lFix (mC (.int 1))) (lFix (mBin dMul (lFix (mC (.int 2))) (lVar 5)))))
    mNext)
    (mIfS (mTest (mBin dGe (lVar 5) (lFix (mBin dPow (lFix (mC (.int 10))) (lFix (mC (.int 18)))))))
    (mForS (iR1 (aCons (mC (.int 60)) aNil)) (gN 6)
    (mIfS (mTest (mBin dGt (lVar 5) (lFix (mC (.int 0)))))
    (mSeq (mApp 3 (mBin dMod (lFix (mBi dInt (bCons (lVar 5) bNil))) (lFix (mC (.int 1000)))))
    (mAsg 5 (mBin dDiv (lVar 5) (lFix (mC (.int 1000))))))
    mNext))
    (mSeq (mAsg 7 (mBin dMod (lFix (mBi dInt (bCons (lFix (mBin dAdd (lFix (mBin dAdd (lFix (mBin dMul (lVar 5) (lFix (mC (.int 48271))))) (lFix (mBin dMul (lVar 4) (lFix (mC (.int 69621))))))) (lFix (mC (.int 11))))) bNil))) (lFix (mC (.int 2147483647)))))
    (mForS (iR1 (aCons (mC (.int 12)) aNil)) (gN 6)
    (mSeq (mAsg 7 (mBin dMod (lFix (mBi dInt (bCons (lFix (mBin dAdd (lFix (mBin dAdd (lFix (mBin dMul (lVar 7) (lFix (mC (.int 16807))))) (lFix (mBin dMul (lFix (mC (.int 7))) (lVar 6))))) (lFix (mC (.int 1))))) bNil))) (lFix (mC (.int 2147483647)))))
    (mApp 3 (mBin dMod (lFix (mBi dInt (bCons (lFix (mBin dDiv (lVar 7) (lFix (mC (.int 997))))) bNil))) (lFix (mC (.int 1000))))))))))))
    (mRetO 3)))
theorem b_law_digits {c : Pc} (T : Txt c) (G_law_cell : FnC c 1 "_law_cell" n_law_cell 2 m_law_cell) : BV (c.z 1 n_law_digits (defScope s_law_digits)) (defBody s_law_digits) m_law_digits :=
    (bv_cons (sv_asgF (i := 3) rfl (by first | exact Or.inr rfl | exact Or.inl ⟨rfl, Or.inl rfl⟩ | exact Or.inl ⟨rfl, Or.inr rfl⟩) (ef_lst ae_nil))
    (bv_cons (sv_for (iv_rng2 (by rfl) T.b_range (ae_cons (ev_var (i := 1) rfl (by first | exact Or.inl rfl | exact Or.inr (Or.inl rfl) | exact Or.inr (Or.inr rfl))) (ae_cons (ev_var (i := 2) rfl (by first | exact Or.inl rfl | exact Or.inr (Or.inl rfl) | exact Or.inr (Or.inr rfl))) ae_nil))) (gv_name (i := 4) rfl (by first | exact Or.inr rfl | exact Or.inl ⟨rfl, Or.inl rfl⟩ | exact Or.inl ⟨rfl, Or.inr rfl⟩))
    (bv_cons (sv_asg (i := 5) rfl (by first | exact Or.inr rfl | exact Or.inl ⟨rfl, Or.inl rfl⟩ | exact Or.inl ⟨rfl, Or.inr rfl⟩) (ev_call (G_law_cell.z (by decide)) (by rfl) (av_imm (ev_var (i := 0) rfl (by first | exact Or.inl rfl | exact Or.inr (Or.inl rfl) | exact Or.inr (Or.inr rfl))) (av_imm (ev_var (i := 4) rfl (by first | exact Or.inl rfl | exact Or.inr (Or.inl rfl) | exact Or.inr (Or.inr rfl))) av_nil))))
    (bv_cons (sv_if (tv_cmp (fun _ _ => op_lt) ok_cmp (lv_var (i := 5) rfl (by first | exact Or.inl rfl | exact Or.inr (Or.inl rfl) | exact Or.inr (Or.inr rfl))) (lv_ev ev_int) (nomark _))
    (bv_one (sv_asg (i := 5) rfl (by first | exact Or.inr rfl | exact Or.inl ⟨rfl, Or.inl rfl⟩ | exact Or.inl ⟨rfl, Or.inr rfl⟩) (ev_op (fun _ _ => op_sub) ok_sub (lv_ev ev_int) (lv_ev (ev_op (fun _ _ => op_mul) ok_mul (lv_ev ev_int) (lv_var (i := 5) rfl (by first | exact Or.inl rfl | exact Or.inr (Or.inl rfl) | exact Or.inr (Or.inr rfl))))))))
    bv_nil)
    (bv_one (sv_if (tv_cmp (fun _ _ => op_ge) ok_cmp (lv_var (i := 5) rfl (by first | exact Or.inl rfl | exact Or.inr (Or.inl rfl) | exact Or.inr (Or.inr rfl))) (lv_ev (ev_op (fun _ _ => op_pow) ok_pow (lv_ev ev_int) (lv_ev ev_int))) (nomark _))
    (bv_one (sv_for (iv_rng1 (by rfl) T.b_range (ae_cons ev_int ae_nil)) (gv_name (i := 6) rfl (by first | exact Or.inr rfl | exact Or.inl ⟨rfl, Or.inl rfl⟩ | exact Or.inl ⟨rfl, Or.inr rfl⟩))
    (bv_one (sv_if (tv_cmp (fun _ _ => op_gt) ok_cmp (lv_var (i := 5) rfl (by first | exact Or.inl rfl | exact Or.inr (Or.inl rfl) | exact Or.inr (Or.inr rfl))) (lv_ev ev_int) (nomark _))
    (bv_cons (sv_append (i := 3) rfl (by first | exact Or.inl rfl | exact Or.inr (Or.inl rfl) | exact Or.inr (Or.inr rfl)) (ev_op (fun _ _ => op_mod) ok_mod (lv_ev (ev_callT (fun _ _ => cr_int) ok_int (by rfl) T.b_int (by decide +kernel) (al_cons (lv_var (i := 5) rfl (by first | exact Or.inl rfl | exact Or.inr (Or.inl rfl) | exact Or.inr (Or.inr rfl))) al_nil))) (lv_ev ev_int)))
    (bv_one (sv_asg (i := 5) rfl (by first | exact Or.inr rfl | exact Or.inl ⟨rfl, Or.inl rfl⟩ | exact Or.inl ⟨rfl, Or.inr rfl⟩) (ev_op (fun _ _ => op_fdiv) ok_div (lv_var (i := 5) rfl (by first | exact Or.inl rfl | exact Or.inr (Or.inl rfl) | exact Or.inr (Or.inr rfl))) (lv_ev ev_int)))))
    bv_nil))))
    (bv_cons (sv_asg (i := 7) rfl (by first | exact Or.inr rfl | exact Or.inl ⟨rfl, Or.inl rfl⟩ | exact Or.inl ⟨rfl, Or.inr rfl⟩) (ev_op (fun _ _ => op_mod) ok_mod (lv_ev (ev_callT (fun _ _ => cr_int) ok_int (by rfl) T.b_int (by decide +kernel) (al_cons (lv_ev (ev_op (fun _ _ => or_add) ok_add (lv_ev (ev_op (fun _ _ => or_add) ok_add (lv_ev (ev_op (fun _ _ => op_mul) ok_mul (lv_var (i := 5) rfl (by first | exact Or.inl rfl | exact Or.inr (Or.inl rfl) | exact Or.inr (Or.inr rfl))) (lv_ev ev_int))) (lv_ev (ev_op (fun _ _ => op_mul) ok_mul (lv_var (i := 4) rfl (by first | exact Or.inl rfl | exact Or.inr (Or.inl rfl) | exact Or.inr (Or.inr rfl))) (lv_ev ev_int))))) (lv_ev ev_int))) al_nil))) (lv_ev ev_int)))
    (bv_one (sv_for (iv_rng1 (by rfl) T.b_range (ae_cons ev_int ae_nil)) (gv_name (i := 6) rfl (by first | exact Or.inr rfl | exact Or.inl ⟨rfl, Or.inl rfl⟩ | exact Or.inl ⟨rfl, Or.inr rfl⟩))
    (bv_cons (sv_asg (i := 7) rfl (by first | exact Or.inr rfl | exact Or.inl ⟨rfl, Or.inl rfl⟩ | exact Or.inl ⟨rfl, Or.inr rfl⟩) (ev_op (fun _ _ => op_mod) ok_mod (lv_ev (ev_callT (fun _ _ => cr_int) ok_int (by rfl) T.b_int (by decide +kernel) (al_cons (lv_ev (ev_op (fun _ _ => or_add) ok_add (lv_ev (ev_op (fun _ _ => or_add) ok_add (lv_ev (ev_op (fun _ _ => op_mul) ok_mul (lv_var (i := 7) rfl (by first | exact Or.inl rfl | exact Or.inr (Or.inl rfl) | exact Or.inr (Or.inr rfl))) (lv_ev ev_int))) (lv_ev (ev_op (fun _ _ => op_mul) ok_mul (lv_ev ev_int) (lv_var (i := 6) rfl (by first | exact Or.inl rfl | exact Or.inr (Or.inl rfl) | exact Or.inr (Or.inr rfl))))))) (lv_ev ev_int))) al_nil))) (lv_ev ev_int)))
    (bv_one (sv_append (i := 3) rfl (by first | exact Or.inl rfl | exact Or.inr (Or.inl rfl) | exact Or.inr (Or.inr rfl)) (ev_op (fun _ _ => op_mod) ok_mod (lv_ev (ev_callT (fun _ _ => cr_int) ok_int (by rfl) T.b_int (by decide +kernel) (al_cons (lv_ev (ev_op (fun _ _ => op_fdiv) ok_div (lv_var (i := 7) rfl (by first | exact Or.inl rfl | exact Or.inr (Or.inl rfl) | exact Or.inr (Or.inr rfl))) (lv_ev ev_int))) al_nil))) (lv_ev ev_int)))))))))))))
    (bv_one (sv_retO (i := 3) rfl (by first | exact Or.inl rfl | exact Or.inr (Or.inl rfl) | exact Or.inr (Or.inr rfl))))))
theorem g_law_digits {c : Pc} {f : Addr} {fd : FuncData} (T : Txt c) (F : Fun c.K "_law_digits" "_law_digits" s_law_digits f fd) (hm : c.mg "_law_digits" = some (.ref f)) (G_law_cell : FnC c 1 "_law_cell" n_law_cell 2 m_law_cell) : FnC c 2 "_law_digits" n_law_digits 3 m_law_digits :=
  ⟨f, fd, ["script", "first", "last"], fn_ok F sc_law_digits (b_law_digits T G_law_cell), hm, F.kp, F.binds (ps := ["script", "first", "last"]) fun _ _ _ _ _ _ us hl => match us, hl with | [_, _, _], _ => rfl⟩
/-! _law_links -/
abbrev s_law_links : Stmt := top 40
abbrev n_law_links : List Str := ["ways", "links", "way", "k"]
theorem sc_law_links : FnScope n_law_links ["ways"] (defScope s_law_links) := ⟨rfl, rfl, rfl, by decide +kernel, rfl, by decide +kernel, by decide +kernel⟩
def m_law_links : MS :=
    (mSeq (mAsgF 1 (mLst aNil))
    (mSeq (mForS (iAny (mVar 0)) (gN 2)
    (mForS (iR1 (aCons (mBin dSub (lFix (mBi dLen (bCons (lVar 2) bNil))) (lFix (mC (.int 1)))) aNil)) (gN 3)
    (mApp 1 (mTup (aCons (mBin dIx (lVar 2) (lVar 3)) (aCons (mBin dIx (lVar 2) (lFix (mBin dAdd (lVar 3) (lFix (mC (.int 1)))))) aNil))))))
    (mRetO 1)))
theorem b_law_links {c : Pc} (T : Txt c) : BV (c.z 0 n_law_links (defScope s_law_links)) (defBody s_law_links) m_law_links :=
    (bv_cons (sv_asgF (i := 1) rfl (by first | exact Or.inr rfl | exact Or.inl ⟨rfl, Or.inl rfl⟩ | exact Or.inl ⟨rfl, Or.inr rfl⟩) (ef_lst ae_nil))
    (bv_cons (sv_for (iv_any (ev_var (i := 0) rfl (by first | exact Or.inl rfl | exact Or.inr (Or.inl rfl) | exact Or.inr (Or.inr rfl)))) (gv_name (i := 2) rfl (by first | exact Or.inr rfl | exact Or.inl ⟨rfl, Or.inl rfl⟩ | exact Or.inl ⟨rfl, Or.inr rfl⟩))
    (bv_one (sv_for (iv_rng1 (by rfl) T.b_range (ae_cons (ev_op (fun _ _ => op_sub) ok_sub (lv_ev (ev_callB (fun _ h => cr_len h) ok_len (by rfl) T.b_len (by decide +kernel) (al_cons (lv_var (i := 2) rfl (by first | exact Or.inl rfl | exact Or.inr (Or.inl rfl) | exact Or.inr (Or.inr rfl))) al_nil))) (lv_ev ev_int)) ae_nil)) (gv_name (i := 3) rfl (by first | exact Or.inr rfl | exact Or.inl ⟨rfl, Or.inl rfl⟩ | exact Or.inl ⟨rfl, Or.inr rfl⟩))
    (bv_one (sv_append (i := 1) rfl (by first | exact Or.inl rfl | exact Or.inr (Or.inl rfl) | exact Or.inr (Or.inr rfl)) (ev_tup (ae_cons (ev_ix (lv_var (i := 2) rfl (by first | exact Or.inl rfl | exact Or.inr (Or.inl rfl) | exact Or.inr (Or.inr rfl))) (lv_var (i := 3) rfl (by first | exact Or.inl rfl | exact Or.inr (Or.inl rfl) | exact Or.inr (Or.inr rfl)))) (ae_cons (ev_ix (lv_var (i := 2) rfl (by first | exact Or.inl rfl | exact Or.inr (Or.inl rfl) | exact Or.inr (Or.inr rfl))) (lv_ev (ev_op (fun _ _ => or_add) ok_add (lv_var (i := 3) rfl (by first | exact Or.inl rfl | exact Or.inr (Or.inl rfl) | exact Or.inr (Or.inr rfl))) (lv_ev ev_int)))) ae_nil))))))))
    (bv_one (sv_retO (i := 1) rfl (by first | exact Or.inl rfl | exact Or.inr (Or.inl rfl) | exact Or.inr (Or.inr rfl))))))
theorem g_law_links {c : Pc} {f : Addr} {fd : FuncData} (T : Txt c) (F : Fun c.K "_law_links" "_law_links" s_law_links f fd) (hm : c.mg "_law_links" = some (.ref f)) : FnC c 1 "_law_links" n_law_links 1 m_law_links :=
  ⟨f, fd, ["ways"], fn_ok F sc_law_links (b_law_links T), hm, F.kp, F.binds (ps := ["ways"]) fun _ _ _ _ _ _ us hl => match us, hl with | [_], _ => rfl⟩
/-! path_to -/
abbrev s_path_to : Stmt := top 13
abbrev n_path_to : List Str := ["spots", "parents", "index", "path", "at"]
theorem sc_path_to : FnScope n_path_to ["spots", "parents", "index"] (defScope s_path_to) := ⟨rfl, rfl, rfl, by decide +kernel, rfl, by decide +kernel, by decide +kernel⟩
def fuel_path_to : En → Nat := fun _ => 10000
def m_path_to : MS :=
    (mSeq (mAsgF 3 (mLst aNil))
    (mSeq (mAsg 4 (mVar 2))
    (mSeq (mWh fuel_path_to (mTest (mBin (dIs true) (lVar 4) (lFix (mC .non))))
    (mSeq (mApp 3 (mBin dIx (lVar 0) (lVar 4)))
    (mAsg 4 (mBin dIx (lVar 1) (lVar 4)))))
    (mSeq (mRev 3)
    (mRetO 3)))))
theorem b_path_to {c : Pc} (T : Txt c) : BV (c.z 0 n_path_to (defScope s_path_to)) (defBody s_path_to) m_path_to :=
    (bv_cons (sv_asgF (i := 3) rfl (by first | exact Or.inr rfl | exact Or.inl ⟨rfl, Or.inl rfl⟩ | exact Or.inl ⟨rfl, Or.inr rfl⟩) (ef_lst ae_nil))
    (bv_cons (sv_asg (i := 4) rfl (by first | exact Or.inr rfl | exact Or.inl ⟨rfl, Or.inl rfl⟩ | exact Or.inl ⟨rfl, Or.inr rfl⟩) (ev_var (i := 2) rfl (by first | exact Or.inl rfl | exact Or.inr (Or.inl rfl) | exact Or.inr (Or.inr rfl))))
    (bv_cons (sv_while fuel_path_to (tv_cmp (fun _ _ => op_notN) ok_isnot (lv_var (i := 4) rfl (by first | exact Or.inl rfl | exact Or.inr (Or.inl rfl) | exact Or.inr (Or.inr rfl))) (lv_ev ev_non) (nomark _))
    (bv_cons (sv_append (i := 3) rfl (by first | exact Or.inl rfl | exact Or.inr (Or.inl rfl) | exact Or.inr (Or.inr rfl)) (ev_ix (lv_var (i := 0) rfl (by first | exact Or.inl rfl | exact Or.inr (Or.inl rfl) | exact Or.inr (Or.inr rfl))) (lv_var (i := 4) rfl (by first | exact Or.inl rfl | exact Or.inr (Or.inl rfl) | exact Or.inr (Or.inr rfl)))))
    (bv_one (sv_asg (i := 4) rfl (by first | exact Or.inr rfl | exact Or.inl ⟨rfl, Or.inl rfl⟩ | exact Or.inl ⟨rfl, Or.inr rfl⟩) (ev_ix (lv_var (i := 1) rfl (by first | exact Or.inl rfl | exact Or.inr (Or.inl rfl) | exact Or.inr (Or.inr rfl))) (lv_var (i := 4) rfl (by first | exact Or.inl rfl | exact Or.inr (Or.inl rfl) | exact Or.inr (Or.inr rfl))))))))
    (bv_cons (sv_reverse (i := 3) rfl (by first | exact Or.inl rfl | exact Or.inr (Or.inl rfl) | exact Or.inr (Or.inr rfl)))
    (bv_one (sv_retO (i := 3) rfl (by first | exact Or.inl rfl | exact Or.inr (Or.inl rfl) | exact Or.inr (Or.inr rfl))))))))
theorem g_path_to {c : Pc} {f : Addr} {fd : FuncData} (T : Txt c) (F : Fun c.K "path_to" "path_to" s_path_to f fd) (hm : c.mg "path_to" = some (.ref f)) : FnC c 1 "path_to" n_path_to 3 m_path_to :=
  ⟨f, fd, ["spots", "parents", "index"], fn_ok F sc_path_to (b_path_to T), hm, F.kp, F.binds (ps := ["spots", "parents", "index"]) fun _ _ _ _ _ _ us hl => match us, hl with | [_, _, _], _ => rfl⟩
/-! _law_changed -/
abbrev s_law_changed : Stmt := top 41
abbrev n_law_changed : List Str := ["links", "path", "gone", "new", "k", "a", "b", "link"]
theorem sc_law_changed : FnScope n_law_changed ["links", "path"] (defScope s_law_changed) := ⟨rfl, rfl, rfl, by decide +kernel, rfl, by decide +kernel, by decide +kernel⟩
def m_law_changed : MS :=
    (mSeq (mAsgF 2 (mLst aNil))
    (mSeq (mAsgF 3 (mLst aNil))
    (mSeq (mForS (iR1 (aCons (mBin dSub (lFix (mBi dLen (bCons (lVar 1) bNil))) (lFix (mC (.int 1)))) aNil)) (gN 4)
    (mSeq (mAsg 5 (mBin dIx (lVar 1) (lVar 4)))
    (mSeq (mAsg 6 (mBin dIx (lVar 1) (lFix (mBin dAdd (lVar 4) (lFix (mC (.int 1)))))))
    (mIfS (mAnd (mTest (mBin (dEqv true) (lFix (mBin dIx (lVar 5) (lFix (mC (.int 0))))) (lFix (mBin dIx (lVar 6) (lFix (mC (.int 0))))))) (mTru (lFix (mBin dIx (lVar 5) (lFix (mC (.int 1)))))))
    (mApp 3 (mTup (aCons (mBin dIx (lVar 5) (lFix (mC (.int 0)))) (aCons (mBin dIx (lVar 6) (lFix (mC (.int 0)))) aNil))))
    (mIfS (mTest (mBin (dEqv true) (lFix (mBin dIx (lVar 5) (lFix (mC (.int 0))))) (lFix (mBin dIx (lVar 6) (lFix (mC (.int 0)))))))
    (mApp 2 (mTup (aCons (mBin dIx (lVar 6) (lFix (mC (.int 0)))) (aCons (mBin dIx (lVar 5) (lFix (mC (.int 0)))) aNil))))
    mNext)))))
    (mRetF (mBin dCat (lFix (mLc [7] (iAny (mVar 0)) (gN 7) (mTest (mBin (dInP true) (lVar 7) (lVar 2))) (mVar 7))) (lVar 3))))))
theorem b_law_changed {c : Pc} (T : Txt c) : BV (c.z 0 n_law_changed (defScope s_law_changed)) (defBody s_law_changed) m_law_changed :=
    (bv_cons (sv_asgF (i := 2) rfl (by first | exact Or.inr rfl | exact Or.inl ⟨rfl, Or.inl rfl⟩ | exact Or.inl ⟨rfl, Or.inr rfl⟩) (ef_lst ae_nil))
    (bv_cons (sv_asgF (i := 3) rfl (by first | exact Or.inr rfl | exact Or.inl ⟨rfl, Or.inl rfl⟩ | exact Or.inl ⟨rfl, Or.inr rfl⟩) (ef_lst ae_nil))
    (bv_cons (sv_for (iv_rng1 (by rfl) T.b_range (ae_cons (ev_op (fun _ _ => op_sub) ok_sub (lv_ev (ev_callB (fun _ h => cr_len h) ok_len (by rfl) T.b_len (by decide +kernel) (al_cons (lv_var (i := 1) rfl (by first | exact Or.inl rfl | exact Or.inr (Or.inl rfl) | exact Or.inr (Or.inr rfl))) al_nil))) (lv_ev ev_int)) ae_nil)) (gv_name (i := 4) rfl (by first | exact Or.inr rfl | exact Or.inl ⟨rfl, Or.inl rfl⟩ | exact Or.inl ⟨rfl, Or.inr rfl⟩))
    (bv_cons (sv_asg (i := 5) rfl (by first | exact Or.inr rfl | exact Or.inl ⟨rfl, Or.inl rfl⟩ | exact Or.inl ⟨rfl, Or.inr rfl⟩) (ev_ix (lv_var (i := 1) rfl (by first | exact Or.inl rfl | exact Or.inr (Or.inl rfl) | exact Or.inr (Or.inr rfl))) (lv_var (i := 4) rfl (by first | exact Or.inl rfl | exact Or.inr (Or.inl rfl) | exact Or.inr (Or.inr rfl)))))
    (bv_cons (sv_asg (i := 6) rfl (by first | exact Or.inr rfl | exact Or.inl ⟨rfl, Or.inl rfl⟩ | exact Or.inl ⟨rfl, Or.inr rfl⟩) (ev_ix (lv_var (i := 1) rfl (by first | exact Or.inl rfl | exact Or.inr (Or.inl rfl) | exact Or.inr (Or.inr rfl))) (lv_ev (ev_op (fun _ _ => or_add) ok_add (lv_var (i := 4) rfl (by first | exact Or.inl rfl | exact Or.inr (Or.inl rfl) | exact Or.inr (Or.inr rfl))) (lv_ev ev_int)))))
    (bv_one (sv_if ((wv_and (tv_cmp (fun _ h => or_ne h) ok_ne (lv_ev (ev_ix (lv_var (i := 5) rfl (by first | exact Or.inl rfl | exact Or.inr (Or.inl rfl) | exact Or.inr (Or.inr rfl))) (lv_ev ev_int))) (lv_ev (ev_ix (lv_var (i := 6) rfl (by first | exact Or.inl rfl | exact Or.inr (Or.inl rfl) | exact Or.inr (Or.inr rfl))) (lv_ev ev_int))) (nomark _)) (wv_and1 (tv_tru (lv_ev (ev_ix (lv_var (i := 5) rfl (by first | exact Or.inl rfl | exact Or.inr (Or.inl rfl) | exact Or.inr (Or.inr rfl))) (lv_ev ev_int))))))).tv
    (bv_one (sv_append (i := 3) rfl (by first | exact Or.inl rfl | exact Or.inr (Or.inl rfl) | exact Or.inr (Or.inr rfl)) (ev_tup (ae_cons (ev_ix (lv_var (i := 5) rfl (by first | exact Or.inl rfl | exact Or.inr (Or.inl rfl) | exact Or.inr (Or.inr rfl))) (lv_ev ev_int)) (ae_cons (ev_ix (lv_var (i := 6) rfl (by first | exact Or.inl rfl | exact Or.inr (Or.inl rfl) | exact Or.inr (Or.inr rfl))) (lv_ev ev_int)) ae_nil)))))
    (bv_one (sv_if (tv_cmp (fun _ h => or_ne h) ok_ne (lv_ev (ev_ix (lv_var (i := 5) rfl (by first | exact Or.inl rfl | exact Or.inr (Or.inl rfl) | exact Or.inr (Or.inr rfl))) (lv_ev ev_int))) (lv_ev (ev_ix (lv_var (i := 6) rfl (by first | exact Or.inl rfl | exact Or.inr (Or.inl rfl) | exact Or.inr (Or.inr rfl))) (lv_ev ev_int))) (nomark _))
    (bv_one (sv_append (i := 2) rfl (by first | exact Or.inl rfl | exact Or.inr (Or.inl rfl) | exact Or.inr (Or.inr rfl)) (ev_tup (ae_cons (ev_ix (lv_var (i := 6) rfl (by first | exact Or.inl rfl | exact Or.inr (Or.inl rfl) | exact Or.inr (Or.inr rfl))) (lv_ev ev_int)) (ae_cons (ev_ix (lv_var (i := 5) rfl (by first | exact Or.inl rfl | exact Or.inr (Or.inl rfl) | exact Or.inr (Or.inr rfl))) (lv_ev ev_int)) ae_nil)))))
    bv_nil)))))))
    (bv_one (sv_retF (ef_op (fun _ _ => op_cat) ok_cat (lv_ev (ef_lc (own := ([("link", 7)] : List (Str × Nat))) (iv_any (ev_var (i := 0) rfl (by first | exact Or.inl rfl | exact Or.inr (Or.inl rfl) | exact Or.inr (Or.inr rfl)))) (blkOk_by (N := n_law_changed) (sc := defScope s_law_changed) (own := ([("link", 7)] : List (Str × Nat))) (by decide +kernel)) (gv_name (i := 7) rfl (by first | exact Or.inr rfl | exact Or.inl ⟨rfl, Or.inl rfl⟩ | exact Or.inl ⟨rfl, Or.inr rfl⟩)) (cv_one (tv_cmp (fun _ h => or_ninP h) ok_ninP (lv_var (i := 7) rfl (by first | exact Or.inl rfl | exact Or.inr (Or.inl rfl) | exact Or.inr (Or.inr rfl))) (lv_var (i := 2) rfl (by first | exact Or.inl rfl | exact Or.inr (Or.inl rfl) | exact Or.inr (Or.inr rfl))) (by rfl))) (ev_var (i := 7) rfl (by first | exact Or.inl rfl | exact Or.inr (Or.inl rfl) | exact Or.inr (Or.inr rfl)))).ev) (lv_var (i := 3) rfl (by first | exact Or.inl rfl | exact Or.inr (Or.inl rfl) | exact Or.inr (Or.inr rfl)))))))))
theorem g_law_changed {c : Pc} {f : Addr} {fd : FuncData} (T : Txt c) (F : Fun c.K "_law_changed" "_law_changed" s_law_changed f fd) (hm : c.mg "_law_changed" = some (.ref f)) : FnC c 1 "_law_changed" n_law_changed 2 m_law_changed :=
  ⟨f, fd, ["links", "path"], fn_ok F sc_law_changed (b_law_changed T), hm, F.kp, F.binds (ps := ["links", "path"]) fun _ _ _ _ _ _ us hl => match us, hl with | [_, _], _ => rfl⟩
/-! follow -/
abbrev s_follow : Stmt := top 4
abbrev n_follow : List Str := ["links", "cell", "after", "met"]
theorem sc_follow : FnScope n_follow ["links", "cell"] (defScope s_follow) := ⟨rfl, rfl, rfl, by decide +kernel, rfl, by decide +kernel, by decide +kernel⟩
def fuel_follow : En → Nat := fun _ => 10000
def m_follow : MS :=
    (mSeq (mAsg 2 (mBi dDictP (bCons (lVar 0) bNil)))
    (mSeq (mAsgF 3 (mLst (aCons (mVar 1) aNil)))
    (mSeq (mWh fuel_follow (mAnd (mTest (mBin (dInD false) (lFix (mBin dIx (lVar 3) (lFix (mNeg (mC (.int 1)))))) (lVar 2))) (mTest (mBin (dIn true) (lFix (mBin dGet (lVar 2) (lFix (mBin dIx (lVar 3) (lFix (mNeg (mC (.int 1)))))))) (lVar 3))))
    (mApp 3 (mBin dGet (lVar 2) (lFix (mBin dIx (lVar 3) (lFix (mNeg (mC (.int 1)))))))))
    (mRetO 3))))
theorem b_follow {c : Pc} (T : Txt c) : BV (c.z 0 n_follow (defScope s_follow)) (defBody s_follow) m_follow :=
    (bv_cons (sv_asg (i := 2) rfl (by first | exact Or.inr rfl | exact Or.inl ⟨rfl, Or.inl rfl⟩ | exact Or.inl ⟨rfl, Or.inr rfl⟩) (ef_callT (fun _ h => cr_dictP h) ok_dictP (by rfl) T.b_dict (by decide +kernel) (al_cons (lv_var (i := 0) rfl (by first | exact Or.inl rfl | exact Or.inr (Or.inl rfl) | exact Or.inr (Or.inr rfl))) al_nil)).ev)
    (bv_cons (sv_asgF (i := 3) rfl (by first | exact Or.inr rfl | exact Or.inl ⟨rfl, Or.inl rfl⟩ | exact Or.inl ⟨rfl, Or.inr rfl⟩) (ef_lst (ae_cons (ev_var (i := 1) rfl (by first | exact Or.inl rfl | exact Or.inr (Or.inl rfl) | exact Or.inr (Or.inr rfl))) ae_nil)))
    (bv_cons (sv_while fuel_follow ((wv_and (tv_inD (lv_ev (ev_ix (lv_var (i := 3) rfl (by first | exact Or.inl rfl | exact Or.inr (Or.inl rfl) | exact Or.inr (Or.inr rfl))) (lv_ev (ev_neg ev_int)))) (lv_var (i := 2) rfl (by first | exact Or.inl rfl | exact Or.inr (Or.inl rfl) | exact Or.inr (Or.inr rfl)))) (wv_and1 (tv_cmp (fun _ h => or_nin h) ok_nin (lv_ev (ev_dget (lv_var (i := 2) rfl (by first | exact Or.inl rfl | exact Or.inr (Or.inl rfl) | exact Or.inr (Or.inr rfl))) (lv_ev (ev_ix (lv_var (i := 3) rfl (by first | exact Or.inl rfl | exact Or.inr (Or.inl rfl) | exact Or.inr (Or.inr rfl))) (lv_ev (ev_neg ev_int)))))) (lv_var (i := 3) rfl (by first | exact Or.inl rfl | exact Or.inr (Or.inl rfl) | exact Or.inr (Or.inr rfl))) (by rfl))))).tv
    (bv_one (sv_append (i := 3) rfl (by first | exact Or.inl rfl | exact Or.inr (Or.inl rfl) | exact Or.inr (Or.inr rfl)) (ev_dget (lv_var (i := 2) rfl (by first | exact Or.inl rfl | exact Or.inr (Or.inl rfl) | exact Or.inr (Or.inr rfl))) (lv_ev (ev_ix (lv_var (i := 3) rfl (by first | exact Or.inl rfl | exact Or.inr (Or.inl rfl) | exact Or.inr (Or.inr rfl))) (lv_ev (ev_neg ev_int))))))))
    (bv_one (sv_retO (i := 3) rfl (by first | exact Or.inl rfl | exact Or.inr (Or.inl rfl) | exact Or.inr (Or.inr rfl)))))))
theorem g_follow {c : Pc} {f : Addr} {fd : FuncData} (T : Txt c) (F : Fun c.K "follow" "follow" s_follow f fd) (hm : c.mg "follow" = some (.ref f)) : FnC c 1 "follow" n_follow 2 m_follow :=
  ⟨f, fd, ["links", "cell"], fn_ok F sc_follow (b_follow T), hm, F.kp, F.binds (ps := ["links", "cell"]) fun _ _ _ _ _ _ us hl => match us, hl with | [_, _], _ => rfl⟩
/-! changed_links -/
abbrev s_changed_links : Stmt := top 3
abbrev n_changed_links : List Str := ["links", "path", "changed", "cell", "outward", "other", "_", "link"]
theorem sc_changed_links : FnScope n_changed_links ["links", "path"] (defScope s_changed_links) := ⟨rfl, rfl, rfl, by decide +kernel, rfl, by decide +kernel, by decide +kernel⟩
def m_changed_links : MS :=
    (mSeq (mAsgF 2 (mBi dList (bCons (lVar 0) bNil)))
    (mSeq (mForS (iZp (aCons (mVar 1) (aCons (mSl dSlL (lVar 1) (oSome (mC (.int 1))) oNone) aNil))) (gT 2 (gsCons (gT 2 (gsCons (gN 3) (gsCons (gN 4) gsNil))) (gsCons (gT 2 (gsCons (gN 5) (gsCons (gN 6) gsNil))) gsNil)))
    (mIfS (mAnd (mTest (mBin (dEqv true) (lVar 3) (lVar 5))) (mTru (lVar 4)))
    (mApp 2 (mTup (aCons (mVar 3) (aCons (mVar 5) aNil))))
    (mIfS (mTest (mBin (dEqv true) (lVar 3) (lVar 5)))
    (mAsgF 2 (mLc [7] (iAny (mVar 2)) (gN 7) (mTest (mBin (dEqv true) (lVar 7) (lFix (mTup (aCons (mVar 5) (aCons (mVar 3) aNil)))))) (mVar 7)))
    mNext)))
    (mRetO 2)))
theorem b_changed_links {c : Pc} (T : Txt c) : BV (c.z 0 n_changed_links (defScope s_changed_links)) (defBody s_changed_links) m_changed_links :=
    (bv_cons (sv_asgF (i := 2) rfl (by first | exact Or.inr rfl | exact Or.inl ⟨rfl, Or.inl rfl⟩ | exact Or.inl ⟨rfl, Or.inr rfl⟩) (ef_callT (fun _ h => cr_list h) ok_list (by rfl) T.b_list (by decide +kernel) (al_cons (lv_var (i := 0) rfl (by first | exact Or.inl rfl | exact Or.inr (Or.inl rfl) | exact Or.inr (Or.inr rfl))) al_nil)))
    (bv_cons (sv_for (iv_zip (by rfl) T.b_zip (ae_cons (ev_var (i := 1) rfl (by first | exact Or.inl rfl | exact Or.inr (Or.inl rfl) | exact Or.inr (Or.inr rfl))) (ae_cons (ef_slL (lv_var (i := 1) rfl (by first | exact Or.inl rfl | exact Or.inr (Or.inl rfl) | exact Or.inr (Or.inr rfl))) (ov_some ev_int) ov_none).ev ae_nil))) (gv_tup (gvs_cons (gv_tup (gvs_cons (gv_name (i := 3) rfl (by first | exact Or.inr rfl | exact Or.inl ⟨rfl, Or.inl rfl⟩ | exact Or.inl ⟨rfl, Or.inr rfl⟩)) (gvs_cons (gv_name (i := 4) rfl (by first | exact Or.inr rfl | exact Or.inl ⟨rfl, Or.inl rfl⟩ | exact Or.inl ⟨rfl, Or.inr rfl⟩)) gvs_nil))) (gvs_cons (gv_tup (gvs_cons (gv_name (i := 5) rfl (by first | exact Or.inr rfl | exact Or.inl ⟨rfl, Or.inl rfl⟩ | exact Or.inl ⟨rfl, Or.inr rfl⟩)) (gvs_cons (gv_name (i := 6) rfl (by first | exact Or.inr rfl | exact Or.inl ⟨rfl, Or.inl rfl⟩ | exact Or.inl ⟨rfl, Or.inr rfl⟩)) gvs_nil))) gvs_nil)))
    (bv_one (sv_if ((wv_and (tv_cmp (fun _ h => or_ne h) ok_ne (lv_var (i := 3) rfl (by first | exact Or.inl rfl | exact Or.inr (Or.inl rfl) | exact Or.inr (Or.inr rfl))) (lv_var (i := 5) rfl (by first | exact Or.inl rfl | exact Or.inr (Or.inl rfl) | exact Or.inr (Or.inr rfl))) (nomark _)) (wv_and1 (tv_tru (lv_var (i := 4) rfl (by first | exact Or.inl rfl | exact Or.inr (Or.inl rfl) | exact Or.inr (Or.inr rfl))))))).tv
    (bv_one (sv_append (i := 2) rfl (by first | exact Or.inl rfl | exact Or.inr (Or.inl rfl) | exact Or.inr (Or.inr rfl)) (ev_tup (ae_cons (ev_var (i := 3) rfl (by first | exact Or.inl rfl | exact Or.inr (Or.inl rfl) | exact Or.inr (Or.inr rfl))) (ae_cons (ev_var (i := 5) rfl (by first | exact Or.inl rfl | exact Or.inr (Or.inl rfl) | exact Or.inr (Or.inr rfl))) ae_nil)))))
    (bv_one (sv_if (tv_cmp (fun _ h => or_ne h) ok_ne (lv_var (i := 3) rfl (by first | exact Or.inl rfl | exact Or.inr (Or.inl rfl) | exact Or.inr (Or.inr rfl))) (lv_var (i := 5) rfl (by first | exact Or.inl rfl | exact Or.inr (Or.inl rfl) | exact Or.inr (Or.inr rfl))) (nomark _))
    (bv_one (sv_asgLc (i := 2) (own := ([("link", 7)] : List (Str × Nat))) rfl rfl rfl (iv_any (ev_var (i := 2) rfl (by first | exact Or.inl rfl | exact Or.inr (Or.inl rfl) | exact Or.inr (Or.inr rfl)))) (blkOk_by (N := n_changed_links) (sc := defScope s_changed_links) (own := ([("link", 7)] : List (Str × Nat))) (by decide +kernel)) (gv_name (i := 7) rfl (by first | exact Or.inr rfl | exact Or.inl ⟨rfl, Or.inl rfl⟩ | exact Or.inl ⟨rfl, Or.inr rfl⟩)) (cv_one (tv_cmp (fun _ h => or_ne h) ok_ne (lv_var (i := 7) rfl (by first | exact Or.inl rfl | exact Or.inr (Or.inl rfl) | exact Or.inr (Or.inr rfl))) (lv_ev (ev_tup (ae_cons (ev_var (i := 5) rfl (by first | exact Or.inl rfl | exact Or.inr (Or.inl rfl) | exact Or.inr (Or.inr rfl))) (ae_cons (ev_var (i := 3) rfl (by first | exact Or.inl rfl | exact Or.inr (Or.inl rfl) | exact Or.inr (Or.inr rfl))) ae_nil)))) (nomark _))) (ev_var (i := 7) rfl (by first | exact Or.inl rfl | exact Or.inr (Or.inl rfl) | exact Or.inr (Or.inr rfl))) (hl := by rfl) (ha := by decide +kernel)))
    bv_nil)))))
    (bv_one (sv_retO (i := 2) rfl (by first | exact Or.inl rfl | exact Or.inr (Or.inl rfl) | exact Or.inr (Or.inr rfl))))))
theorem g_changed_links {c : Pc} {f : Addr} {fd : FuncData} (T : Txt c) (F : Fun c.K "changed_links" "changed_links" s_changed_links f fd) (hm : c.mg "changed_links" = some (.ref f)) : FnC c 1 "changed_links" n_changed_links 2 m_changed_links :=
  ⟨f, fd, ["links", "path"], fn_ok F sc_changed_links (b_changed_links T), hm, F.kp, F.binds (ps := ["links", "path"]) fun _ _ _ _ _ _ us hl => match us, hl with | [_, _], _ => rfl⟩
/-! new_ways -/
abbrev s_new_ways : Stmt := top 5
abbrev n_new_ways : List Str := ["ways", "path", "links", "starts", "first", "_", "way", "cell"]
theorem sc_new_ways : FnScope n_new_ways ["ways", "path"] (defScope s_new_ways) := ⟨rfl, rfl, rfl, by decide +kernel, rfl, by decide +kernel, by decide +kernel⟩
def m_new_ways : MS :=
    (mSeq (mAsg 2 (mCallV n_changed_links 2 m_changed_links (cImm (mCallV n_links_of 1 m_links_of (cImm (mVar 0) cNil)) (cImm (mVar 1) cNil))))
    (mSeq (mAsgF 3 (mLc [6] (iAny (mVar 0)) (gN 6) mYes (mBin dIx (lVar 6) (lFix (mC (.int 0))))))
    (mSeq (mAsgG (gT 2 (gsCons (gN 4) (gsCons (gN 5) gsNil))) (mBin dIx (lVar 1) (lFix (mC (.int 0)))))
    (mRetF (mLc [7] (iAny (mBin dCat (lVar 3) (lFix (mLst (aCons (mVar 4) aNil))))) (gN 7) mYes (mCallV n_follow 2 m_follow (cBor 2 (cImm (mVar 7) cNil))))))))
theorem b_new_ways {c : Pc} (T : Txt c) (G_changed_links : FnC c 1 "changed_links" n_changed_links 2 m_changed_links) (G_links_of : FnC c 1 "links_of" n_links_of 1 m_links_of) (G_follow : FnC c 1 "follow" n_follow 2 m_follow) : BV (c.z 1 n_new_ways (defScope s_new_ways)) (defBody s_new_ways) m_new_ways :=
    (bv_cons (sv_asg (i := 2) rfl (by first | exact Or.inr rfl | exact Or.inl ⟨rfl, Or.inl rfl⟩ | exact Or.inl ⟨rfl, Or.inr rfl⟩) (ev_call (G_changed_links.z (by decide)) (by rfl) (av_imm (ev_call (G_links_of.z (by decide)) (by rfl) (av_imm (ev_var (i := 0) rfl (by first | exact Or.inl rfl | exact Or.inr (Or.inl rfl) | exact Or.inr (Or.inr rfl))) av_nil)) (av_imm (ev_var (i := 1) rfl (by first | exact Or.inl rfl | exact Or.inr (Or.inl rfl) | exact Or.inr (Or.inr rfl))) av_nil))))
    (bv_cons (sv_asgLc (i := 3) (own := ([("way", 6)] : List (Str × Nat))) rfl rfl rfl (iv_any (ev_var (i := 0) rfl (by first | exact Or.inl rfl | exact Or.inr (Or.inl rfl) | exact Or.inr (Or.inr rfl)))) (blkOk_by (N := n_new_ways) (sc := defScope s_new_ways) (own := ([("way", 6)] : List (Str × Nat))) (by decide +kernel)) (gv_name (i := 6) rfl (by first | exact Or.inr rfl | exact Or.inl ⟨rfl, Or.inl rfl⟩ | exact Or.inl ⟨rfl, Or.inr rfl⟩)) cv_nil (ev_ix (lv_var (i := 6) rfl (by first | exact Or.inl rfl | exact Or.inr (Or.inl rfl) | exact Or.inr (Or.inr rfl))) (lv_ev ev_int)) (hl := by rfl) (ha := by decide +kernel))
    (bv_cons (sv_asgG (gv_tup (gvs_cons (gv_name (i := 4) rfl (by first | exact Or.inr rfl | exact Or.inl ⟨rfl, Or.inl rfl⟩ | exact Or.inl ⟨rfl, Or.inr rfl⟩)) (gvs_cons (gv_name (i := 5) rfl (by first | exact Or.inr rfl | exact Or.inl ⟨rfl, Or.inl rfl⟩ | exact Or.inl ⟨rfl, Or.inr rfl⟩)) gvs_nil))) (ev_ix (lv_var (i := 1) rfl (by first | exact Or.inl rfl | exact Or.inr (Or.inl rfl) | exact Or.inr (Or.inr rfl))) (lv_ev ev_int)))
    (bv_one (sv_retF (ef_lc (own := ([("cell", 7)] : List (Str × Nat))) (iv_any (ef_op (fun _ _ => op_cat) ok_cat (lv_var (i := 3) rfl (by first | exact Or.inl rfl | exact Or.inr (Or.inl rfl) | exact Or.inr (Or.inr rfl))) (lv_ev (ef_lst (ae_cons (ev_var (i := 4) rfl (by first | exact Or.inl rfl | exact Or.inr (Or.inl rfl) | exact Or.inr (Or.inr rfl))) ae_nil)).ev)).ev) (blkOk_by (N := n_new_ways) (sc := defScope s_new_ways) (own := ([("cell", 7)] : List (Str × Nat))) (by decide +kernel)) (gv_name (i := 7) rfl (by first | exact Or.inr rfl | exact Or.inl ⟨rfl, Or.inl rfl⟩ | exact Or.inl ⟨rfl, Or.inr rfl⟩)) cv_nil (ev_call (G_follow.zb (by decide)) (by rfl) (av_bor (i := 2) rfl (by first | exact Or.inl rfl | exact Or.inr (Or.inl rfl) | exact Or.inr (Or.inr rfl)) (av_imm (ev_var (i := 7) rfl (by first | exact Or.inl rfl | exact Or.inr (Or.inl rfl) | exact Or.inr (Or.inr rfl))) av_nil)))))))))
theorem g_new_ways {c : Pc} {f : Addr} {fd : FuncData} (T : Txt c) (F : Fun c.K "new_ways" "new_ways" s_new_ways f fd) (hm : c.mg "new_ways" = some (.ref f)) (G_changed_links : FnC c 1 "changed_links" n_changed_links 2 m_changed_links) (G_links_of : FnC c 1 "links_of" n_links_of 1 m_links_of) (G_follow : FnC c 1 "follow" n_follow 2 m_follow) : FnC c 2 "new_ways" n_new_ways 2 m_new_ways :=
  ⟨f, fd, ["ways", "path"], fn_ok F sc_new_ways (b_new_ways T G_changed_links G_links_of G_follow), hm, F.kp, F.binds (ps := ["ways", "path"]) fun _ _ _ _ _ _ us hl => match us, hl with | [_, _], _ => rfl⟩
/-! _law_followed -/
abbrev s_law_followed : Stmt := top 42
abbrev n_law_followed : List Str := ["links", "cell", "way", "k", "ahead", "link"]
theorem sc_law_followed : FnScope n_law_followed ["links", "cell"] (defScope s_law_followed) := ⟨rfl, rfl, rfl, by decide +kernel, rfl, by decide +kernel, by decide +kernel⟩
def m_law_followed : MS :=
    (mSeq (mAsgF 2 (mLst (aCons (mVar 1) aNil)))
    (mSeq (mForS (iR1 (aCons (mBi dLen (bCons (lVar 0) bNil)) aNil)) (gN 3)
    (mSeq (mAsgF 4 (mLc [5] (iAny (mVar 0)) (gN 5) (mTest (mBin (dEqv false) (lFix (mBin dIx (lVar 5) (lFix (mC (.int 0))))) (lFix (mBin dIx (lVar 2) (lFix (mNeg (mC (.int 1)))))))) (mBin dIx (lVar 5) (lFix (mC (.int 1))))))
    (mIfS (mAnd (mTest (mBin dGt (lFix (mBi dLen (bCons (lVar 4) bNil))) (lFix (mC (.int 0))))) (mTest (mBin (dEqv false) (lFix (mBi dLen (bCons (lVar 2) bNil))) (lFix (mBin dAdd (lVar 3) (lFix (mC (.int 1))))))))
    (mApp 2 (mBin dIx (lVar 4) (lFix (mC (.int 0)))))
    mNext)))
    (mRetO 2)))
theorem b_law_followed {c : Pc} (T : Txt c) : BV (c.z 0 n_law_followed (defScope s_law_followed)) (defBody s_law_followed) m_law_followed :=
    (bv_cons (sv_asgF (i := 2) rfl (by first | exact Or.inr rfl | exact Or.inl ⟨rfl, Or.inl rfl⟩ | exact Or.inl ⟨rfl, Or.inr rfl⟩) (ef_lst (ae_cons (ev_var (i := 1) rfl (by first | exact Or.inl rfl | exact Or.inr (Or.inl rfl) | exact Or.inr (Or.inr rfl))) ae_nil)))
    (bv_cons (sv_for (iv_rng1 (by rfl) T.b_range (ae_cons (ev_callB (fun _ h => cr_len h) ok_len (by rfl) T.b_len (by decide +kernel) (al_cons (lv_var (i := 0) rfl (by first | exact Or.inl rfl | exact Or.inr (Or.inl rfl) | exact Or.inr (Or.inr rfl))) al_nil)) ae_nil)) (gv_name (i := 3) rfl (by first | exact Or.inr rfl | exact Or.inl ⟨rfl, Or.inl rfl⟩ | exact Or.inl ⟨rfl, Or.inr rfl⟩))
    (bv_cons (sv_asgLc (i := 4) (own := ([("link", 5)] : List (Str × Nat))) rfl rfl rfl (iv_any (ev_var (i := 0) rfl (by first | exact Or.inl rfl | exact Or.inr (Or.inl rfl) | exact Or.inr (Or.inr rfl)))) (blkOk_by (N := n_law_followed) (sc := defScope s_law_followed) (own := ([("link", 5)] : List (Str × Nat))) (by decide +kernel)) (gv_name (i := 5) rfl (by first | exact Or.inr rfl | exact Or.inl ⟨rfl, Or.inl rfl⟩ | exact Or.inl ⟨rfl, Or.inr rfl⟩)) (cv_one (tv_cmp (fun _ h => or_eq h) ok_eq (lv_ev (ev_ix (lv_var (i := 5) rfl (by first | exact Or.inl rfl | exact Or.inr (Or.inl rfl) | exact Or.inr (Or.inr rfl))) (lv_ev ev_int))) (lv_ev (ev_ix (lv_var (i := 2) rfl (by first | exact Or.inl rfl | exact Or.inr (Or.inl rfl) | exact Or.inr (Or.inr rfl))) (lv_ev (ev_neg ev_int)))) (nomark _))) (ev_ix (lv_var (i := 5) rfl (by first | exact Or.inl rfl | exact Or.inr (Or.inl rfl) | exact Or.inr (Or.inr rfl))) (lv_ev ev_int)) (hl := by rfl) (ha := by decide +kernel))
    (bv_one (sv_if ((wv_and (tv_cmp (fun _ _ => op_gt) ok_cmp (lv_ev (ev_callB (fun _ h => cr_len h) ok_len (by rfl) T.b_len (by decide +kernel) (al_cons (lv_var (i := 4) rfl (by first | exact Or.inl rfl | exact Or.inr (Or.inl rfl) | exact Or.inr (Or.inr rfl))) al_nil))) (lv_ev ev_int) (nomark _)) (wv_and1 (tv_cmp (fun _ h => or_eq h) ok_eq (lv_ev (ev_callB (fun _ h => cr_len h) ok_len (by rfl) T.b_len (by decide +kernel) (al_cons (lv_var (i := 2) rfl (by first | exact Or.inl rfl | exact Or.inr (Or.inl rfl) | exact Or.inr (Or.inr rfl))) al_nil))) (lv_ev (ev_op (fun _ _ => or_add) ok_add (lv_var (i := 3) rfl (by first | exact Or.inl rfl | exact Or.inr (Or.inl rfl) | exact Or.inr (Or.inr rfl))) (lv_ev ev_int))) (nomark _))))).tv
    (bv_one (sv_append (i := 2) rfl (by first | exact Or.inl rfl | exact Or.inr (Or.inl rfl) | exact Or.inr (Or.inr rfl)) (ev_ix (lv_var (i := 4) rfl (by first | exact Or.inl rfl | exact Or.inr (Or.inl rfl) | exact Or.inr (Or.inr rfl))) (lv_ev ev_int))))
    bv_nil))))
    (bv_one (sv_retO (i := 2) rfl (by first | exact Or.inl rfl | exact Or.inr (Or.inl rfl) | exact Or.inr (Or.inr rfl))))))
theorem g_law_followed {c : Pc} {f : Addr} {fd : FuncData} (T : Txt c) (F : Fun c.K "_law_followed" "_law_followed" s_law_followed f fd) (hm : c.mg "_law_followed" = some (.ref f)) : FnC c 1 "_law_followed" n_law_followed 2 m_law_followed :=
  ⟨f, fd, ["links", "cell"], fn_ok F sc_law_followed (b_law_followed T), hm, F.kp, F.binds (ps := ["links", "cell"]) fun _ _ _ _ _ _ us hl => match us, hl with | [_, _], _ => rfl⟩
/-! law -/
abbrev s_law : Stmt := top 43
abbrev n_law : List Str := ["script", "box", "made", "near", "floor", "closed", "ways", "kept", "links", "starts", "told", "k", "path", "due", "begun", "way", "cell"]
theorem sc_law : FnScope n_law ["script"] (defScope s_law) := ⟨rfl, rfl, rfl, by decide +kernel, rfl, by decide +kernel, by decide +kernel⟩
def m_law : MS :=
    (mSeq (mAsgF 1 (mLst (aCons (mCallV n_law_digits 3 m_law_digits (cImm (mVar 0) (cImm (mC (.int 0)) (cImm (mC (.int 63)) cNil)))) (aCons (mC (.int 0)) aNil))))
    (mSeq (mAsg 2 (mCallV n_law_made 1 m_law_made (cIo 1 cNil)))
    (mSeq (mAsg 3 (mBin dIx (lVar 2) (lFix (mC (.int 0)))))
    (mSeq (mAsg 4 (mCallV n_floor_of 3 m_floor_of (cImm (mVar 3) (cImm (mBin dIx (lVar 2) (lFix (mC (.int 1)))) (cImm (mBin dIx (lVar 2) (lFix (mC (.int 2)))) cNil)))))
    (mSeq (mAsg 5 (mCallV n_law_some 3 m_law_some (cIo 1 (cImm (mBi dLen (bCons (lVar 3) bNil)) (cImm (mC (.int 4)) cNil)))))
    (mSeq (mAsg 6 (mCallV n_law_greedy 4 m_law_greedy (cBor 3 (cBor 5 (cImm (mBin dIx (lVar 2) (lFix (mC (.int 1)))) (cImm (mCallV n_law_some 3 m_law_some (cIo 1 (cImm (mBi dLen (bCons (lVar 3) bNil)) (cImm (mC (.int 5)) cNil)))) cNil))))))
    (mSeq (mAsgF 7 (mLc [15] (iAny (mVar 6)) (gN 15) mYes (mLc [16] (iAny (mVar 15)) (gN 16) mYes (mVar 16))))
    (mSeq (mAsg 8 (mCallV n_links_of 1 m_links_of (cImm (mVar 6) cNil)))
    (mSeq (mIfS (mOr (mNot (mTru (lFix (mBi dIsi (bCons (lVar 8) (bCons (lFix (mC (.typ "list"))) bNil)))))) (mTest (mBin (dEqv true) (lVar 8) (lFix (mCallV n_law_links 1 m_law_links (cImm (mVar 6) cNil))))))
    (mRet (mC (.bl false)))
    mNext)
    (mSeq (mAsgF 9 (mLc [16] (iAny (mCallV n_law_some 3 m_law_some (cIo 1 (cImm (mBi dLen (bCons (lVar 3) bNil)) (cImm (mC (.int 3)) cNil))))) (gN 16) (mTest (mBin (dIn true) (lVar 16) (lFix (mLc [15] (iAny (mVar 6)) (gN 15) mYes (mBin dIx (lVar 15) (lFix (mC (.int 0)))))))) (mVar 16)))
    (mSeq (mAsg 10 (mCallV n_explore 4 m_explore (cBor 4 (cBor 5 (cImm (mVar 6) (cBor 9 cNil))))))
    (mSeq (mForS (iR1 (aCons (mBi dLen (bCons (lFix (mBin dIx (lVar 10) (lFix (mC (.int 0))))) bNil)) aNil)) (gN 11)
    (mIfS (mTru (lFix (mBin dIx (lFix (mBin dIx (lFix (mBin dIx (lVar 10) (lFix (mC (.int 0))))) (lVar 11))) (lFix (mC (.int 1))))))
    (mSeq (mAsg 12 (mCallV n_path_to 3 m_path_to (cImm (mBin dIx (lVar 10) (lFix (mC (.int 0)))) (cImm (mBin dIx (lVar 10) (lFix (mC (.int 1)))) (cImm (mVar 11) cNil)))))
    (mSeq (mAsg 13 (mCallV n_law_changed 2 m_law_changed (cImm (mVar 8) (cBor 12 cNil))))
    (mSeq (mIfS (mOr (mTest (mBin (dEqv true) (lFix (mCallV n_changed_links 2 m_changed_links (cBor 8 (cImm (mVar 12) cNil)))) (lVar 13))) (mTest (mBin (dEqv true) (lVar 8) (lFix (mCallV n_law_links 1 m_law_links (cImm (mVar 7) cNil))))))
    (mRet (mC (.bl false)))
    mNext)
    (mSeq (mAsg 14 (mBin dCat (lFix (mLc [15] (iAny (mVar 6)) (gN 15) mYes (mBin dIx (lVar 15) (lFix (mC (.int 0)))))) (lFix (mLst (aCons (mBin dIx (lFix (mBin dIx (lVar 12) (lFix (mC (.int 0))))) (lFix (mC (.int 0)))) aNil)))))
    (mSeq (mIfS (mTest (mBin (dEqv true) (lFix (mCallV n_new_ways 2 m_new_ways (cImm (mVar 6) (cImm (mVar 12) cNil)))) (lFix (mLc [16] (iAny (mVar 14)) (gN 16) mYes (mCallV n_law_followed 2 m_law_followed (cImm (mVar 13) (cImm (mVar 16) cNil)))))))
    (mRet (mC (.bl false)))
    mNext)
    (mIfS (mTest (mBin (dEqv true) (lFix (mCallV n_follow 2 m_follow (cBor 13 (cImm (mBin dIx (lFix (mBin dIx (lVar 12) (lFix (mC (.int 0))))) (lFix (mC (.int 0)))) cNil)))) (lFix (mCallV n_law_followed 2 m_law_followed (cImm (mVar 13) (cImm (mBin dIx (lFix (mBin dIx (lVar 12) (lFix (mC (.int 0))))) (lFix (mC (.int 0)))) cNil))))))
    (mRet (mC (.bl false)))
    mNext))))))
    mNext))
    (mRet (mAndV (mBin (dEqv false) (lVar 6) (lVar 7)) (mAndV (mBin (dEqv false) (lFix (mCallV n_links_of 1 m_links_of (cImm (mLst aNil) cNil))) (lFix (mLst aNil))) (mBin (dEqv false) (lFix (mCallV n_follow 2 m_follow (cImm (mLst aNil) (cImm (mC (.int 3)) cNil)))) (lFix (mLst (aCons (mC (.int 3)) aNil)))))))))))))))))))
theorem b_law {c : Pc} (T : Txt c) (G_law_digits : FnC c 2 "_law_digits" n_law_digits 3 m_law_digits) (G_law_made : FnC c 4 "_law_made" n_law_made 1 m_law_made) (G_floor_of : FnC c 3 "floor_of" n_floor_of 3 m_floor_of) (G_law_some : FnC c 2 "_law_some" n_law_some 3 m_law_some) (G_law_greedy : FnC c 2 "_law_greedy" n_law_greedy 4 m_law_greedy) (G_links_of : FnC c 1 "links_of" n_links_of 1 m_links_of) (G_law_links : FnC c 1 "_law_links" n_law_links 1 m_law_links) (G_explore : FnC c 2 "explore" n_explore 4 m_explore) (G_path_to : FnC c 1 "path_to" n_path_to 3 m_path_to) (G_law_changed : FnC c 1 "_law_changed" n_law_changed 2 m_law_changed) (G_changed_links : FnC c 1 "changed_links" n_changed_links 2 m_changed_links) (G_new_ways : FnC c 2 "new_ways" n_new_ways 2 m_new_ways) (G_law_followed : FnC c 1 "_law_followed" n_law_followed 2 m_law_followed) (G_follow : FnC c 1 "follow" n_follow 2 m_follow) : BV (c.z 4 n_law (defScope s_law)) (defBody s_law) m_law :=
    (bv_cons (sv_asgF (i := 1) rfl (by first | exact Or.inr rfl | exact Or.inl ⟨rfl, Or.inl rfl⟩ | exact Or.inl ⟨rfl, Or.inr rfl⟩) (ef_lst (ae_cons (ev_call (G_law_digits.z (by decide)) (by rfl) (av_imm (ev_var (i := 0) rfl (by first | exact Or.inl rfl | exact Or.inr (Or.inl rfl) | exact Or.inr (Or.inr rfl))) (av_imm ev_int (av_imm ev_int av_nil)))) (ae_cons ev_int ae_nil))))
    (bv_cons (sv_asg (i := 2) rfl (by first | exact Or.inr rfl | exact Or.inl ⟨rfl, Or.inl rfl⟩ | exact Or.inl ⟨rfl, Or.inr rfl⟩) (ev_call (G_law_made.z (by decide)) (by rfl) (av_io (i := 1) rfl (by first | exact Or.inl rfl | exact Or.inr (Or.inl rfl) | exact Or.inr (Or.inr rfl)) av_nil)))
    (bv_cons (sv_asg (i := 3) rfl (by first | exact Or.inr rfl | exact Or.inl ⟨rfl, Or.inl rfl⟩ | exact Or.inl ⟨rfl, Or.inr rfl⟩) (ev_ix (lv_var (i := 2) rfl (by first | exact Or.inl rfl | exact Or.inr (Or.inl rfl) | exact Or.inr (Or.inr rfl))) (lv_ev ev_int)))
    (bv_cons (sv_asg (i := 4) rfl (by first | exact Or.inr rfl | exact Or.inl ⟨rfl, Or.inl rfl⟩ | exact Or.inl ⟨rfl, Or.inr rfl⟩) (ev_call (G_floor_of.z (by decide)) (by rfl) (av_imm (ev_var (i := 3) rfl (by first | exact Or.inl rfl | exact Or.inr (Or.inl rfl) | exact Or.inr (Or.inr rfl))) (av_imm (ev_ix (lv_var (i := 2) rfl (by first | exact Or.inl rfl | exact Or.inr (Or.inl rfl) | exact Or.inr (Or.inr rfl))) (lv_ev ev_int)) (av_imm (ev_ix (lv_var (i := 2) rfl (by first | exact Or.inl rfl | exact Or.inr (Or.inl rfl) | exact Or.inr (Or.inr rfl))) (lv_ev ev_int)) av_nil)))))
    (bv_cons (sv_asg (i := 5) rfl (by first | exact Or.inr rfl | exact Or.inl ⟨rfl, Or.inl rfl⟩ | exact Or.inl ⟨rfl, Or.inr rfl⟩) (ev_call (G_law_some.z (by decide)) (by rfl) (av_io (i := 1) rfl (by first | exact Or.inl rfl | exact Or.inr (Or.inl rfl) | exact Or.inr (Or.inr rfl)) (av_imm (ev_callB (fun _ h => cr_len h) ok_len (by rfl) T.b_len (by decide +kernel) (al_cons (lv_var (i := 3) rfl (by first | exact Or.inl rfl | exact Or.inr (Or.inl rfl) | exact Or.inr (Or.inr rfl))) al_nil)) (av_imm ev_int av_nil)))))
    (bv_cons (sv_asg (i := 6) rfl (by first | exact Or.inr rfl | exact Or.inl ⟨rfl, Or.inl rfl⟩ | exact Or.inl ⟨rfl, Or.inr rfl⟩) (ev_call (G_law_greedy.z (by decide)) (by rfl) (av_bor (i := 3) rfl (by first | exact Or.inl rfl | exact Or.inr (Or.inl rfl) | exact Or.inr (Or.inr rfl)) (av_bor (i := 5) rfl (by first | exact Or.inl rfl | exact Or.inr (Or.inl rfl) | exact Or.inr (Or.inr rfl)) (av_imm (ev_ix (lv_var (i := 2) rfl (by first | exact Or.inl rfl | exact Or.inr (Or.inl rfl) | exact Or.inr (Or.inr rfl))) (lv_ev ev_int)) (av_imm (ev_call (G_law_some.z (by decide)) (by rfl) (av_io (i := 1) rfl (by first | exact Or.inl rfl | exact Or.inr (Or.inl rfl) | exact Or.inr (Or.inr rfl)) (av_imm (ev_callB (fun _ h => cr_len h) ok_len (by rfl) T.b_len (by decide +kernel) (al_cons (lv_var (i := 3) rfl (by first | exact Or.inl rfl | exact Or.inr (Or.inl rfl) | exact Or.inr (Or.inr rfl))) al_nil)) (av_imm ev_int av_nil)))) av_nil))))))
    (bv_cons (sv_asgLc (i := 7) (own := ([("way", 15)] : List (Str × Nat))) rfl rfl rfl (iv_any (ev_var (i := 6) rfl (by first | exact Or.inl rfl | exact Or.inr (Or.inl rfl) | exact Or.inr (Or.inr rfl)))) (blkOk_by (N := n_law) (sc := defScope s_law) (own := ([("way", 15)] : List (Str × Nat))) (by decide +kernel)) (gv_name (i := 15) rfl (by first | exact Or.inr rfl | exact Or.inl ⟨rfl, Or.inl rfl⟩ | exact Or.inl ⟨rfl, Or.inr rfl⟩)) cv_nil (ef_lc (own := ([("cell", 16)] : List (Str × Nat))) (iv_any (ev_var (i := 15) rfl (by first | exact Or.inl rfl | exact Or.inr (Or.inl rfl) | exact Or.inr (Or.inr rfl)))) (blkOk_by (N := n_law) (own := ([("cell", 16)] : List (Str × Nat))) (by dsimp only [ZB, Pc.z]; decide +kernel)) (gv_name (i := 16) rfl (by first | exact Or.inr rfl | exact Or.inl ⟨rfl, Or.inl rfl⟩ | exact Or.inl ⟨rfl, Or.inr rfl⟩)) cv_nil (ev_var (i := 16) rfl (by first | exact Or.inl rfl | exact Or.inr (Or.inl rfl) | exact Or.inr (Or.inr rfl)))).ev (hl := by rfl) (ha := by decide +kernel))
    (bv_cons (sv_asg (i := 8) rfl (by first | exact Or.inr rfl | exact Or.inl ⟨rfl, Or.inl rfl⟩ | exact Or.inl ⟨rfl, Or.inr rfl⟩) (ev_call (G_links_of.z (by decide)) (by rfl) (av_imm (ev_var (i := 6) rfl (by first | exact Or.inl rfl | exact Or.inr (Or.inl rfl) | exact Or.inr (Or.inr rfl))) av_nil)))
    (bv_cons (sv_if ((wv_or (tv_not (tv_tru (lv_ev (ev_callB (fun _ h => cr_isi h) ok_isi (by rfl) T.b_isinstance (by decide +kernel) (al_cons (lv_var (i := 8) rfl (by first | exact Or.inl rfl | exact Or.inr (Or.inl rfl) | exact Or.inr (Or.inr rfl))) (al_cons (lv_ev (ev_ty (by rfl) T.b_list (by decide +kernel))) al_nil)))))) (wv_or1 (tv_cmp (fun _ h => or_ne h) ok_ne (lv_var (i := 8) rfl (by first | exact Or.inl rfl | exact Or.inr (Or.inl rfl) | exact Or.inr (Or.inr rfl))) (lv_ev (ev_call (G_law_links.z (by decide)) (by rfl) (av_imm (ev_var (i := 6) rfl (by first | exact Or.inl rfl | exact Or.inr (Or.inl rfl) | exact Or.inr (Or.inr rfl))) av_nil))) (nomark _))))).tv
    (bv_one (sv_ret ev_bl))
    bv_nil)
    (bv_cons (sv_asgLc (i := 9) (own := ([("cell", 16)] : List (Str × Nat))) rfl rfl rfl (iv_any (ev_call (G_law_some.z (by decide)) (by rfl) (av_io (i := 1) rfl (by first | exact Or.inl rfl | exact Or.inr (Or.inl rfl) | exact Or.inr (Or.inr rfl)) (av_imm (ev_callB (fun _ h => cr_len h) ok_len (by rfl) T.b_len (by decide +kernel) (al_cons (lv_var (i := 3) rfl (by first | exact Or.inl rfl | exact Or.inr (Or.inl rfl) | exact Or.inr (Or.inr rfl))) al_nil)) (av_imm ev_int av_nil))))) (blkOk_by (N := n_law) (sc := defScope s_law) (own := ([("cell", 16)] : List (Str × Nat))) (by decide +kernel)) (gv_name (i := 16) rfl (by first | exact Or.inr rfl | exact Or.inl ⟨rfl, Or.inl rfl⟩ | exact Or.inl ⟨rfl, Or.inr rfl⟩)) (cv_one (tv_cmp (fun _ h => or_nin h) ok_nin (lv_var (i := 16) rfl (by first | exact Or.inl rfl | exact Or.inr (Or.inl rfl) | exact Or.inr (Or.inr rfl))) (lv_ev (ef_lc (own := ([("way", 15)] : List (Str × Nat))) (iv_any (ev_var (i := 6) rfl (by first | exact Or.inl rfl | exact Or.inr (Or.inl rfl) | exact Or.inr (Or.inr rfl)))) (blkOk_by (N := n_law) (own := ([("way", 15)] : List (Str × Nat))) (by dsimp only [ZB, Pc.z]; decide +kernel)) (gv_name (i := 15) rfl (by first | exact Or.inr rfl | exact Or.inl ⟨rfl, Or.inl rfl⟩ | exact Or.inl ⟨rfl, Or.inr rfl⟩)) cv_nil (ev_ix (lv_var (i := 15) rfl (by first | exact Or.inl rfl | exact Or.inr (Or.inl rfl) | exact Or.inr (Or.inr rfl))) (lv_ev ev_int))).ev) (by rfl))) (ev_var (i := 16) rfl (by first | exact Or.inl rfl | exact Or.inr (Or.inl rfl) | exact Or.inr (Or.inr rfl))) (hl := by rfl) (ha := by decide +kernel))
    (bv_cons (sv_asg (i := 10) rfl (by first | exact Or.inr rfl | exact Or.inl ⟨rfl, Or.inl rfl⟩ | exact Or.inl ⟨rfl, Or.inr rfl⟩) (ev_call (G_explore.z (by decide)) (by rfl) (av_bor (i := 4) rfl (by first | exact Or.inl rfl | exact Or.inr (Or.inl rfl) | exact Or.inr (Or.inr rfl)) (av_bor (i := 5) rfl (by first | exact Or.inl rfl | exact Or.inr (Or.inl rfl) | exact Or.inr (Or.inr rfl)) (av_imm (ev_var (i := 6) rfl (by first | exact Or.inl rfl | exact Or.inr (Or.inl rfl) | exact Or.inr (Or.inr rfl))) (av_bor (i := 9) rfl (by first | exact Or.inl rfl | exact Or.inr (Or.inl rfl) | exact Or.inr (Or.inr rfl)) av_nil))))))
    (bv_cons (sv_for (iv_rng1 (by rfl) T.b_range (ae_cons (ev_callB (fun _ h => cr_len h) ok_len (by rfl) T.b_len (by decide +kernel) (al_cons (lv_ev (ev_ix (lv_var (i := 10) rfl (by first | exact Or.inl rfl | exact Or.inr (Or.inl rfl) | exact Or.inr (Or.inr rfl))) (lv_ev ev_int))) al_nil)) ae_nil)) (gv_name (i := 11) rfl (by first | exact Or.inr rfl | exact Or.inl ⟨rfl, Or.inl rfl⟩ | exact Or.inl ⟨rfl, Or.inr rfl⟩))
    (bv_one (sv_if (tv_tru (lv_ev (ev_ix (lv_ev (ev_ix (lv_ev (ev_ix (lv_var (i := 10) rfl (by first | exact Or.inl rfl | exact Or.inr (Or.inl rfl) | exact Or.inr (Or.inr rfl))) (lv_ev ev_int))) (lv_var (i := 11) rfl (by first | exact Or.inl rfl | exact Or.inr (Or.inl rfl) | exact Or.inr (Or.inr rfl))))) (lv_ev ev_int))))
    (bv_cons (sv_asg (i := 12) rfl (by first | exact Or.inr rfl | exact Or.inl ⟨rfl, Or.inl rfl⟩ | exact Or.inl ⟨rfl, Or.inr rfl⟩) (ev_call (G_path_to.z (by decide)) (by rfl) (av_imm (ev_ix (lv_var (i := 10) rfl (by first | exact Or.inl rfl | exact Or.inr (Or.inl rfl) | exact Or.inr (Or.inr rfl))) (lv_ev ev_int)) (av_imm (ev_ix (lv_var (i := 10) rfl (by first | exact Or.inl rfl | exact Or.inr (Or.inl rfl) | exact Or.inr (Or.inr rfl))) (lv_ev ev_int)) (av_imm (ev_var (i := 11) rfl (by first | exact Or.inl rfl | exact Or.inr (Or.inl rfl) | exact Or.inr (Or.inr rfl))) av_nil)))))
    (bv_cons (sv_asg (i := 13) rfl (by first | exact Or.inr rfl | exact Or.inl ⟨rfl, Or.inl rfl⟩ | exact Or.inl ⟨rfl, Or.inr rfl⟩) (ev_call (G_law_changed.z (by decide)) (by rfl) (av_imm (ev_var (i := 8) rfl (by first | exact Or.inl rfl | exact Or.inr (Or.inl rfl) | exact Or.inr (Or.inr rfl))) (av_bor (i := 12) rfl (by first | exact Or.inl rfl | exact Or.inr (Or.inl rfl) | exact Or.inr (Or.inr rfl)) av_nil))))
    (bv_cons (sv_if ((wv_or (tv_cmp (fun _ h => or_ne h) ok_ne (lv_ev (ev_call (G_changed_links.z (by decide)) (by rfl) (av_bor (i := 8) rfl (by first | exact Or.inl rfl | exact Or.inr (Or.inl rfl) | exact Or.inr (Or.inr rfl)) (av_imm (ev_var (i := 12) rfl (by first | exact Or.inl rfl | exact Or.inr (Or.inl rfl) | exact Or.inr (Or.inr rfl))) av_nil)))) (lv_var (i := 13) rfl (by first | exact Or.inl rfl | exact Or.inr (Or.inl rfl) | exact Or.inr (Or.inr rfl))) (nomark _)) (wv_or1 (tv_cmp (fun _ h => or_ne h) ok_ne (lv_var (i := 8) rfl (by first | exact Or.inl rfl | exact Or.inr (Or.inl rfl) | exact Or.inr (Or.inr rfl))) (lv_ev (ev_call (G_law_links.z (by decide)) (by rfl) (av_imm (ev_var (i := 7) rfl (by first | exact Or.inl rfl | exact Or.inr (Or.inl rfl) | exact Or.inr (Or.inr rfl))) av_nil))) (nomark _))))).tv
    (bv_one (sv_ret ev_bl))
    bv_nil)
    (bv_cons (sv_asg (i := 14) rfl (by first | exact Or.inr rfl | exact Or.inl ⟨rfl, Or.inl rfl⟩ | exact Or.inl ⟨rfl, Or.inr rfl⟩) (ef_op (fun _ _ => op_cat) ok_cat (lv_ev (ef_lc (own := ([("way", 15)] : List (Str × Nat))) (iv_any (ev_var (i := 6) rfl (by first | exact Or.inl rfl | exact Or.inr (Or.inl rfl) | exact Or.inr (Or.inr rfl)))) (blkOk_by (N := n_law) (sc := defScope s_law) (own := ([("way", 15)] : List (Str × Nat))) (by decide +kernel)) (gv_name (i := 15) rfl (by first | exact Or.inr rfl | exact Or.inl ⟨rfl, Or.inl rfl⟩ | exact Or.inl ⟨rfl, Or.inr rfl⟩)) cv_nil (ev_ix (lv_var (i := 15) rfl (by first | exact Or.inl rfl | exact Or.inr (Or.inl rfl) | exact Or.inr (Or.inr rfl))) (lv_ev ev_int))).ev) (lv_ev (ef_lst (ae_cons (ev_ix (lv_ev (ev_ix (lv_var (i := 12) rfl (by first | exact Or.inl rfl | exact Or.inr (Or.inl rfl) | exact Or.inr (Or.inr rfl))) (lv_ev ev_int))) (lv_ev ev_int)) ae_nil)).ev)).ev)
    (bv_cons (sv_if (tv_cmp (fun _ h => or_ne h) ok_ne (lv_ev (ev_call (G_new_ways.z (by decide)) (by rfl) (av_imm (ev_var (i := 6) rfl (by first | exact Or.inl rfl | exact Or.inr (Or.inl rfl) | exact Or.inr (Or.inr rfl))) (av_imm (ev_var (i := 12) rfl (by first | exact Or.inl rfl | exact Or.inr (Or.inl rfl) | exact Or.inr (Or.inr rfl))) av_nil)))) (lv_ev (ef_lc (own := ([("cell", 16)] : List (Str × Nat))) (iv_any (ev_var (i := 14) rfl (by first | exact Or.inl rfl | exact Or.inr (Or.inl rfl) | exact Or.inr (Or.inr rfl)))) (blkOk_by (N := n_law) (sc := defScope s_law) (own := ([("cell", 16)] : List (Str × Nat))) (by decide +kernel)) (gv_name (i := 16) rfl (by first | exact Or.inr rfl | exact Or.inl ⟨rfl, Or.inl rfl⟩ | exact Or.inl ⟨rfl, Or.inr rfl⟩)) cv_nil (ev_call (G_law_followed.zb (by decide)) (by rfl) (av_imm (ev_var (i := 13) rfl (by first | exact Or.inl rfl | exact Or.inr (Or.inl rfl) | exact Or.inr (Or.inr rfl))) (av_imm (ev_var (i := 16) rfl (by first | exact Or.inl rfl | exact Or.inr (Or.inl rfl) | exact Or.inr (Or.inr rfl))) av_nil)))).ev) (nomark _))
    (bv_one (sv_ret ev_bl))
    bv_nil)
    (bv_one (sv_if (tv_cmp (fun _ h => or_ne h) ok_ne (lv_ev (ev_call (G_follow.z (by decide)) (by rfl) (av_bor (i := 13) rfl (by first | exact Or.inl rfl | exact Or.inr (Or.inl rfl) | exact Or.inr (Or.inr rfl)) (av_imm (ev_ix (lv_ev (ev_ix (lv_var (i := 12) rfl (by first | exact Or.inl rfl | exact Or.inr (Or.inl rfl) | exact Or.inr (Or.inr rfl))) (lv_ev ev_int))) (lv_ev ev_int)) av_nil)))) (lv_ev (ev_call (G_law_followed.z (by decide)) (by rfl) (av_imm (ev_var (i := 13) rfl (by first | exact Or.inl rfl | exact Or.inr (Or.inl rfl) | exact Or.inr (Or.inr rfl))) (av_imm (ev_ix (lv_ev (ev_ix (lv_var (i := 12) rfl (by first | exact Or.inl rfl | exact Or.inr (Or.inl rfl) | exact Or.inr (Or.inr rfl))) (lv_ev ev_int))) (lv_ev ev_int)) av_nil)))) (nomark _))
    (bv_one (sv_ret ev_bl))
    bv_nil)))))))
    bv_nil)))
    (bv_one (sv_ret (ev_and (ev_cmp (fun _ h => or_eq h) ok_eq (lv_var (i := 6) rfl (by first | exact Or.inl rfl | exact Or.inr (Or.inl rfl) | exact Or.inr (Or.inr rfl))) (lv_var (i := 7) rfl (by first | exact Or.inl rfl | exact Or.inr (Or.inl rfl) | exact Or.inr (Or.inr rfl))) (nomark _)) (ev_and (ev_cmp (fun _ h => or_eq h) ok_eq (lv_ev (ev_call (G_links_of.z (by decide)) (by rfl) (av_imm (ef_lst ae_nil).ev av_nil))) (lv_ev (ef_lst ae_nil).ev) (nomark _)) (ev_one (ev_cmp (fun _ h => or_eq h) ok_eq (lv_ev (ev_call (G_follow.z (by decide)) (by rfl) (av_imm (ef_lst ae_nil).ev (av_imm ev_int av_nil)))) (lv_ev (ef_lst (ae_cons ev_int ae_nil)).ev) (nomark _)))))))))))))))))))
theorem g_law {c : Pc} {f : Addr} {fd : FuncData} (T : Txt c) (F : Fun c.K "law" "law" s_law f fd) (hm : c.mg "law" = some (.ref f)) (G_law_digits : FnC c 2 "_law_digits" n_law_digits 3 m_law_digits) (G_law_made : FnC c 4 "_law_made" n_law_made 1 m_law_made) (G_floor_of : FnC c 3 "floor_of" n_floor_of 3 m_floor_of) (G_law_some : FnC c 2 "_law_some" n_law_some 3 m_law_some) (G_law_greedy : FnC c 2 "_law_greedy" n_law_greedy 4 m_law_greedy) (G_links_of : FnC c 1 "links_of" n_links_of 1 m_links_of) (G_law_links : FnC c 1 "_law_links" n_law_links 1 m_law_links) (G_explore : FnC c 2 "explore" n_explore 4 m_explore) (G_path_to : FnC c 1 "path_to" n_path_to 3 m_path_to) (G_law_changed : FnC c 1 "_law_changed" n_law_changed 2 m_law_changed) (G_changed_links : FnC c 1 "changed_links" n_changed_links 2 m_changed_links) (G_new_ways : FnC c 2 "new_ways" n_new_ways 2 m_new_ways) (G_law_followed : FnC c 1 "_law_followed" n_law_followed 2 m_law_followed) (G_follow : FnC c 1 "follow" n_follow 2 m_follow) : FnC c 5 "law" n_law 1 m_law :=
  ⟨f, fd, ["script"], fn_ok F sc_law (b_law T G_law_digits G_law_made G_floor_of G_law_some G_law_greedy G_links_of G_law_links G_explore G_path_to G_law_changed G_changed_links G_new_ways G_law_followed G_follow), hm, F.kp, F.binds (ps := ["script"]) fun _ _ _ _ _ _ us hl => match us, hl with | [_], _ => rfl⟩
end Law
namespace Law
open PySem L2 Q
def IsBox (d : D) : Prop := ∃ (ds : List Int) (p : Nat), d = .lst [.lst (ds.map .int), .int p]
theorem draw_ok {b : D} {many : Int} (hb : IsBox b) (hm : 0 < many) : W m_law_draw [.io 0 b, .imm (.int many), .un] (RtIo 0 fun md d x => ∃ v : Nat, d = .int v ∧ (v : Int) < many ∧ IsBox x) := by
  obtain ⟨ds, p, rfl⟩ := hb
  unfold m_law_draw
  simp -implicitDefEqProofs
  by_cases h : p < ds.length
  · rw [if_pos h]
    simp -implicitDefEqProofs [List.getElem?_eq_getElem h, mod_int hm]
    have h1 : 0 ≤ ds[p] % many := Int.emod_nonneg _ (by omega)
    have h2 : ds[p] % many < many := Int.emod_lt_of_pos _ hm
    exact ⟨(ds[p] % many).toNat, by omega, by omega, ds, p + 1, rfl⟩
  · rw [if_neg h]
    exact ⟨0, rfl, hm, ds, p + 1, rfl⟩
/-- a draw in a def's body: the box is slot i -/
theorem draw_call {env : En} {i : Nat} {b : D} {a : ME} {many : Int} (hb : IsBox b) (hr : env[i]?.bind Sl.own? = some b) (ha : a env = some (.int many, env)) (hm : 0 < many) :
    ∃ (v : Nat) (x : D), (v : Int) < many ∧ IsBox x ∧ mCallV n_law_draw 2 m_law_draw (cIo i (cImm a cNil)) env = some (.int v, putS env i x) := by
  obtain ⟨md, d, x, ⟨v, rfl, h1, h2⟩, h3, _⟩ := call_io (N := n_law_draw) (np := 2) (mf := m_law_draw) (a := cIo i (cImm a cNil)) (env := env) (e1 := env) (as := [.io i, .imm (.int many)]) (ss := [.io 0 b, .imm (.int many)]) (i := i) (j := 0)
    (by simp -implicitDefEqProofs [hr, ha]) (by simp -implicitDefEqProofs [iosOf]) (by simp -implicitDefEqProofs [borsOf]) (by simp -implicitDefEqProofs [ioPlaces]) rfl (by simp -implicitDefEqProofs [hr]) (draw_ok hb hm)
  exact ⟨v, x, h1, h2, h3⟩
theorem tile_ok {b : D} {walls many : Nat} (hb : IsBox b) (hm : many ≤ 3) : W m_law_tile [.io 0 b, .imm (.int walls), .imm (.int many), .un] (RtIo 0 fun md d x => (∃ c : Nat, d = .str ⟨#[c]⟩) ∧ IsBox x) := by
  unfold m_law_tile
  obtain ⟨v, x, h1, h2, h3⟩ := draw_call (env := [.io 0 b, .imm (.int walls), .imm (.int many), .un]) (i := 0) (a := mC (.int 12)) (many := 12) hb rfl rfl (by omega)
  have q1 : (Str.ofString "abc").length ≤ sizeLine := by decide
  have q2 : (Str.ofString "ABCD").length ≤ sizeLine := by decide
  have q3 : (Str.ofString "abc").cps.toList = [97, 98, 99] := by decide +kernel
  have q4 : (Str.ofString "ABCD").cps.toList = [65, 66, 67, 68] := by decide +kernel
  simp -implicitDefEqProofs [h3]
  by_cases c1 : v < walls
  · rw [if_pos c1]; exact ⟨⟨35, by decide +kernel⟩, h2⟩
  · rw [if_neg c1]
    by_cases c2 : 0 < many
    · obtain ⟨v', x', h4, h5, h6⟩ := draw_call (env := [.io 0 x, .imm (.int walls), .imm (.int many), .imm (.int v)]) (i := 0) (a := mVar 2) (many := many) h2 rfl rfl (by omega)
      have r1 : dIx (.str (Str.ofString "abc")) (.int v') = some (.str ⟨#[(Str.ofString "abc").cps.toList[v']'(by rw [q3]; simp -implicitDefEqProofs; omega)]⟩) := ix_str_at q1 _
      have r2 : dIx (.str (Str.ofString "ABCD")) (.int v') = some (.str ⟨#[(Str.ofString "ABCD").cps.toList[v']'(by rw [q4]; simp -implicitDefEqProofs; omega)]⟩) := ix_str_at q2 _
      by_cases c3 : (10 : Int) < v
      · simp -implicitDefEqProofs [c3, c2, h6, r1, h5]
      · simp -implicitDefEqProofs [c3]
        by_cases c4 : (8 : Int) < v
        · simp -implicitDefEqProofs [c4, c2, h6, r2, h5]
        · simp -implicitDefEqProofs [c4]
          by_cases c5 : (7 : Int) < v
          · simp -implicitDefEqProofs [c5]; exact ⟨⟨43, by decide +kernel⟩, h2⟩
          · simp -implicitDefEqProofs [c5]; exact ⟨⟨46, by decide +kernel⟩, h2⟩
    · have c2' : many = 0 := by omega
      subst c2'
      by_cases c3 : (10 : Int) < v
      · have c4 : (8 : Int) < v := by omega
        have c5 : (7 : Int) < v := by omega
        simp -implicitDefEqProofs [c3, c4, c5]; exact ⟨⟨43, by decide +kernel⟩, h2⟩
      · simp -implicitDefEqProofs [c3]
        by_cases c5 : (7 : Int) < v
        · simp -implicitDefEqProofs [c5]; exact ⟨⟨43, by decide +kernel⟩, h2⟩
        · simp -implicitDefEqProofs [c5]; exact ⟨⟨46, by decide +kernel⟩, h2⟩
end Law
namespace Law
open PySem L2 Q
/-- rows of signs -/
abbrev dS (rs : List Str) : List D := rs.map .str
theorem used_ok (rs : List Str) (h1 : rs.length ≤ 100) : W m_law_used [.imm (.lst (dS rs)), .un, .un, .un] (Rt fun md d => ∃ us : List Nat, d = .lst (dN us) ∧ us.length ≤ 3 ∧ ∀ u ∈ us, u < 3) := by
  have q1 : (Str.ofString "abc").length ≤ sizeLine := by decide
  have q2 : (Str.ofString "ABCD").length ≤ sizeLine := by decide
  have q3 : (Str.ofString "abc").cps.toList = [97, 98, 99] := by decide +kernel
  have q4 : (Str.ofString "ABCD").cps.toList = [65, 66, 67, 68] := by decide +kernel
  unfold m_law_used
  simp -implicitDefEqProofs
  refine W_for (ds := rngD 0 3) (e0 := [.imm (.lst (dS rs)), .own (.lst []), .un, .un]) (iR1_ok (n := 3) rfl (by omega)) (fun k e => ∃ (us : List Nat) (s t : Sl), e = [.imm (.lst (dS rs)), .own (.lst (dN us)), s, t] ∧ us.length ≤ k ∧ ∀ u ∈ us, u < k) ⟨[], .un, .un, rfl, by simp -implicitDefEqProofs, by simp -implicitDefEqProofs⟩ ?_ ?_
  · rintro k d e hd ⟨us, s, t, rfl, hl, hu⟩
    simp -implicitDefEqProofs at hd
    obtain ⟨hk, rfl⟩ := hd
    simp -implicitDefEqProofs
    refine W_for (ds := dS rs) (e0 := [.imm (.lst (dS rs)), .own (.lst (dN us)), .imm (.int k), t]) (by simp -implicitDefEqProofs) (fun _ e => ∃ (us : List Nat) (t : Sl), e = [.imm (.lst (dS rs)), .own (.lst (dN us)), .imm (.int k), t] ∧ (us.length ≤ k ∨ (us.length ≤ k + 1 ∧ k ∈ us)) ∧ ∀ u ∈ us, u < k + 1) ⟨us, t, rfl, .inl hl, fun u h => by have := hu u h; omega⟩ ?_ ?_
    · rintro i d e hd ⟨us, t, rfl, hl, hu⟩
      simp -implicitDefEqProofs at hd
      obtain ⟨r, hr, rfl⟩ := hd
      have r1 : dIx (.str (Str.ofString "abc")) (.int k) = some (.str ⟨#[(Str.ofString "abc").cps.toList[k]'(by rw [q3]; simp -implicitDefEqProofs; omega)]⟩) := ix_str_at q1 _
      have r2 : dIx (.str (Str.ofString "ABCD")) (.int k) = some (.str ⟨#[(Str.ofString "ABCD").cps.toList[k]'(by rw [q4]; simp -implicitDefEqProofs; omega)]⟩) := ix_str_at q2 _
      simp -implicitDefEqProofs [r1, r2]
      refine W_ite (fun hc => ?_) fun hc => ⟨us, rfl, hl, hu⟩
      have : us.length ≤ k := by
        rcases hl with h | h
        · exact h
        · exact absurd h.2 hc.1
      refine ⟨szL (by omega), us ++ [k], by simp -implicitDefEqProofs, .inr ⟨by simp -implicitDefEqProofs; omega, by simp -implicitDefEqProofs⟩, fun u hu' => ?_⟩
      simp -implicitDefEqProofs at hu'
      rcases hu' with h | rfl
      · exact hu u h
      · omega
    · rintro e ⟨us, t, rfl, hl, hu⟩
      simp -implicitDefEqProofs
      exact ⟨us, by simp -implicitDefEqProofs, by omega, hu⟩
  · rintro e ⟨us, s, t, rfl, hl, hu⟩
    simp -implicitDefEqProofs
    exact ⟨us, rfl, by simpa using hl, by simpa using hu⟩
theorem renamed_ok (r : Str) (us : List Nat) (hr : r.length ≤ 100) (h1 : us.length ≤ 3) (h2 : ∀ u ∈ us, u < 3) : W m_law_renamed [.imm (.str r), .imm (.lst (dN us)), .un, .un, .un, .un] (Rt fun md d => ∃ z : Str, d = .str z ∧ z.length = r.length) := by
  have q1 : (Str.ofString "abc").length ≤ sizeLine := by decide
  have q2 : (Str.ofString "ABCD").length ≤ sizeLine := by decide
  have q3 : (Str.ofString "abc").cps.toList = [97, 98, 99] := by decide +kernel
  have q4 : (Str.ofString "ABCD").cps.toList = [65, 66, 67, 68] := by decide +kernel
  unfold m_law_renamed
  simp -implicitDefEqProofs
  refine W_for (ds := signs r) (e0 := [.imm (.str r), .imm (.lst (dN us)), .imm (.str (Str.ofString "")), .un, .un, .un]) (by simp -implicitDefEqProofs) (fun k e => ∃ (z : Str) (s t w : Sl), e = [.imm (.str r), .imm (.lst (dN us)), .imm (.str z), s, t, w] ∧ z.length = k) ⟨_, .un, .un, .un, rfl, rfl⟩ ?_ ?_
  · rintro k d e hd ⟨z, s, t, w, rfl, hl⟩
    obtain ⟨c, rfl, hc⟩ := signs_at hd
    simp -implicitDefEqProofs
    refine W_for (ds := rngD 0 us.length) (e0 := [.imm (.str r), .imm (.lst (dN us)), .imm (.str z), .imm (.str ⟨#[c]⟩), .imm (.str ⟨#[c]⟩), w]) (iR1_ok (by simp -implicitDefEqProofs) (by omega)) (fun _ e => ∃ (c' : Nat) (w : Sl), e = [.imm (.str r), .imm (.lst (dN us)), .imm (.str z), .imm (.str ⟨#[c]⟩), .imm (.str ⟨#[c']⟩), w]) ⟨c, w, rfl⟩ ?_ ?_
    · rintro i d e hd ⟨c', w, rfl⟩
      simp -implicitDefEqProofs at hd
      obtain ⟨hi, rfl⟩ := hd
      have hu : us[i] < 3 := h2 _ (List.getElem_mem hi)
      have r1 : dIx (.str (Str.ofString "abc")) (.int i) = some (.str ⟨#[(Str.ofString "abc").cps.toList[i]'(by rw [q3]; simp -implicitDefEqProofs; omega)]⟩) := ix_str_at q1 _
      have r2 : dIx (.str (Str.ofString "ABCD")) (.int i) = some (.str ⟨#[(Str.ofString "ABCD").cps.toList[i]'(by rw [q4]; simp -implicitDefEqProofs; omega)]⟩) := ix_str_at q2 _
      have r3 : dIx (.str (Str.ofString "abc")) (.int us[i]) = some (.str ⟨#[(Str.ofString "abc").cps.toList[us[i]]'(by rw [q3]; simp -implicitDefEqProofs; omega)]⟩) := ix_str_at q1 _
      have r4 : dIx (.str (Str.ofString "ABCD")) (.int us[i]) = some (.str ⟨#[(Str.ofString "ABCD").cps.toList[us[i]]'(by rw [q4]; simp -implicitDefEqProofs; omega)]⟩) := ix_str_at q2 _
      simp -implicitDefEqProofs [List.getElem?_eq_getElem hi, r1, r2, r3, r4]
    · rintro e ⟨c', w, rfl⟩
      have hz : z.length + 1 ≤ sizeLine := by
        have : k < r.length := by
          have := (List.getElem?_eq_some_iff.mp hc).1
          rwa [len_cps] at this
        exact szS (by omega)
      have h5 : z.length + Str.length ⟨#[c']⟩ ≤ sizeLine := hz
      simp -implicitDefEqProofs [h5]
      rw [len_app, hl]; rfl
  · rintro e ⟨z, s, t, w, rfl, hl⟩
    simp -implicitDefEqProofs at hl
    simp -implicitDefEqProofs [hl]
theorem has_door_ok (rs : List Str) (h1 : rs.length ≤ 100) : W m_law_has_door [.imm (.lst (dS rs)), .un, .un] (Rt fun md d => ∃ b : Bool, d = .bl b ∧ (b = true → ∃ r ∈ rs, ∃ c ∈ r.cps.toList, c ≠ 35)) := by
  have q1 : (Str.ofString "+abc").length ≤ sizeLine := by decide
  have q3 : (Str.ofString "+abc").cps.toList = [43, 97, 98, 99] := by decide +kernel
  unfold m_law_has_door
  simp -implicitDefEqProofs only [W_seq]
  refine W_for (ds := dS rs) (e0 := [.imm (.lst (dS rs)), .un, .un]) (by simp -implicitDefEqProofs) (fun k e => ∃ (s t : Sl), e = [.imm (.lst (dS rs)), s, t]) ⟨.un, .un, rfl⟩ ?_ ?_
  · rintro k d e hd ⟨s, t, rfl⟩
    simp -implicitDefEqProofs at hd
    obtain ⟨r, hr, rfl⟩ := hd
    simp -implicitDefEqProofs
    refine W_for (ds := signs r) (e0 := [.imm (.lst (dS rs)), .imm (.str r), t]) (by simp -implicitDefEqProofs) (fun _ e => ∃ (t : Sl), e = [.imm (.lst (dS rs)), .imm (.str r), t]) ⟨t, rfl⟩ ?_ ?_
    · rintro i d e hd ⟨t, rfl⟩
      obtain ⟨c, rfl, hc⟩ := signs_at hd
      simp -implicitDefEqProofs
      intro hc'
      have : c ∈ (Str.ofString "+abc").cps.toList := by simpa using hc'
      rw [q3] at this
      exact ⟨r, List.mem_of_getElem? hr, c, by simpa using List.mem_of_getElem? hc, by rintro rfl; simp -implicitDefEqProofs at this⟩
    · rintro e ⟨t, rfl⟩
      simp -implicitDefEqProofs
  · rintro e ⟨s, t, rfl⟩
    simp -implicitDefEqProofs
end Law
namespace Law
open PySem L2 Q
theorem cutS_len {z : Str} (h : 1 ≤ z.length) : (cutS z (some 1) none).length = z.length - 1 := by
  have h1 : HT.sIx z.length 0 (some 1) = min 1 z.length := by
    have := HT.sIx_nat z.length 0 1
    simpa using this
  have h2 : HT.sIx z.length z.length none = z.length := HT.sIx_none _ _
  unfold cutS
  rw [h1, h2]
  show (List.toArray _).size = _
  rw [List.size_toArray, List.length_take, List.length_drop, len_cps]
  omega
theorem cutD_1 (x : D) (xs : List D) : cutD (x :: xs) (some 1) none = xs := by
  have h1 : HT.sIx (x :: xs).length 0 (some 1) = 1 := by
    have := HT.sIx_nat (x :: xs).length 0 1
    have h2 : min 1 (x :: xs).length = 1 := by simp -implicitDefEqProofs
    rw [h2] at this
    simpa using this
  have h2 : HT.sIx (x :: xs).length (x :: xs).length none = (x :: xs).length := HT.sIx_none _ _
  unfold cutD
  rw [h1, h2]
  simp -implicitDefEqProofs
theorem with_door_ok (r : Str) (rs : List Str) (h1 : rs.length ≤ 100) (hr : 1 ≤ r.length) (hr' : r.length ≤ 6) (hrs : ∀ r ∈ rs, r.length ≤ 6) : W m_law_with_door [.imm (.lst (dS (r :: rs))), .un, .un, .un]
    (Rt fun md d => md = .new ∧ ∃ rs' : List Str, d = .lst (dS rs') ∧ rs'.length = rs.length + 1 ∧ (∀ r ∈ rs', r.length ≤ 6) ∧ ∃ r ∈ rs', ∃ c ∈ r.cps.toList, c ≠ 35) := by
  have q1 : (Str.ofString "abc").length ≤ sizeLine := by decide
  have q2 : (Str.ofString "ABCD").length ≤ sizeLine := by decide
  have q3 : (Str.ofString "abc").cps.toList = [97, 98, 99] := by decide +kernel
  have q4 : (Str.ofString "ABCD").cps.toList = [65, 66, 67, 68] := by decide +kernel
  have r0 : dIx (.str r) (.int ((0 : Nat) : Int)) = some (.str ⟨#[r.cps.toList[0]'(by rw [len_cps]; omega)]⟩) := ix_str_at (szS (by omega)) _
  have r0' : dIx (.str r) (.int 0) = some (.str ⟨#[r.cps.toList[0]'(by rw [len_cps]; omega)]⟩) := r0
  unfold m_law_with_door
  simp -implicitDefEqProofs [r0']
  refine W_for (ds := rngD 0 3) (e0 := _) (iR1_ok (n := 3) rfl (by omega)) (fun k e => ∃ (c : Nat) (s : Sl), e = [.imm (.lst (dS (r :: rs))), .imm (.str ⟨#[r.cps.toList[0]'(by rw [len_cps]; omega)]⟩), .imm (.str ⟨#[c]⟩), s] ∧ c ≠ 35) ⟨43, .un, by simp -implicitDefEqProofs; rfl, by omega⟩ ?_ ?_
  · rintro k d e hd ⟨c, s, rfl, hc⟩
    simp -implicitDefEqProofs at hd
    obtain ⟨hk, rfl⟩ := hd
    have r1 : dIx (.str (Str.ofString "abc")) (.int k) = some (.str ⟨#[(Str.ofString "abc").cps.toList[k]'(by rw [q3]; simp -implicitDefEqProofs; omega)]⟩) := ix_str_at q1 _
    have r2 : dIx (.str (Str.ofString "ABCD")) (.int k) = some (.str ⟨#[(Str.ofString "ABCD").cps.toList[k]'(by rw [q4]; simp -implicitDefEqProofs; omega)]⟩) := ix_str_at q2 _
    have hne : (Str.ofString "abc").cps.toList[k]'(by rw [q3]; simp -implicitDefEqProofs; omega) ≠ 35 := by
      intro e
      have : (35 : Nat) ∈ (Str.ofString "abc").cps.toList := e ▸ List.getElem_mem _
      rw [q3] at this; simp -implicitDefEqProofs at this
    simp -implicitDefEqProofs [r1, r2]
    simp -implicitDefEqProofs at hne
    exact W_ite (fun _ => hne) (fun _ => hc)
  · rintro e ⟨c, s, rfl, hc⟩
    have e1 : dSlS (.str r) (some 1) none = some (.str (cutS r (some 1) none)) := by
      unfold dSlS; simp -implicitDefEqProofs only; rw [if_pos (szS (by omega))]
    have e2 : dSlL (.lst (dS (r :: rs))) (some 1) none = some (.lst (dS rs)) := by
      show some (D.lst (cutD (D.str r :: dS rs) (some 1) none)) = _
      rw [cutD_1]
    have e3 : Str.length ⟨#[c]⟩ + (cutS r (some 1) none).length ≤ sizeLine := by rw [cutS_len hr]; show 1 + _ ≤ _; exact szS (by omega)
    have e4 : 1 + rs.length ≤ sizeLine := szS (by omega)
    have e5 : 1 ≤ sizeLine := szS (by omega)
    simp -implicitDefEqProofs at e2
    simp -implicitDefEqProofs [e1, e2, e3, e4, e5]
    refine ⟨((⟨#[c]⟩ : Str) ++ cutS r (some 1) none) :: rs, by simp -implicitDefEqProofs, by simp -implicitDefEqProofs, ?_, _, by simp -implicitDefEqProofs; exact .inl rfl, c, ?_, hc⟩
    · intro r' h'
      simp -implicitDefEqProofs at h'
      rcases h' with rfl | h'
      · rw [len_app, cutS_len hr]; show 1 + _ ≤ _; omega
      · exact hrs _ h'
    · show c ∈ (#[c] ++ (cutS r (some 1) none).cps)
      simp -implicitDefEqProofs
theorem tile_call {env : En} {b : D} {walls many : Nat} {w1 w2 : ME} {i : Nat} (hb : IsBox b) (hr : env[i]?.bind Sl.own? = some b) (h1 : w1 env = some (.int walls, env)) (h2 : w2 env = some (.int many, env)) (hm : many ≤ 3) :
    ∃ (c : Nat) (x : D), IsBox x ∧ mCallV n_law_tile 3 m_law_tile (cIo i (cImm w1 (cImm w2 cNil))) env = some (.str ⟨#[c]⟩, putS env i x) := by
  obtain ⟨md, d, x, ⟨⟨c, rfl⟩, h⟩, h3, _⟩ := call_io (N := n_law_tile) (np := 3) (mf := m_law_tile) (a := cIo i (cImm w1 (cImm w2 cNil))) (env := env) (e1 := env) (as := [.io i, .imm (.int walls), .imm (.int many)]) (ss := [.io 0 b, .imm (.int walls), .imm (.int many)]) (i := i) (j := 0)
    (by simp -implicitDefEqProofs [hr, h1, h2]) (by simp -implicitDefEqProofs [iosOf]) (by simp -implicitDefEqProofs [borsOf]) (by simp -implicitDefEqProofs [ioPlaces]) rfl (by simp -implicitDefEqProofs [hr]) (tile_ok hb hm)
  exact ⟨c, x, h, h3⟩
theorem rows_ok {b : D} (hb : IsBox b) : W m_law_rows [.io 0 b, .un, .un, .un, .un, .un, .un, .un, .un, .un]
    (RtIo 0 fun md d x => IsBox x ∧ ∃ rs : List Str, d = .lst (dS rs) ∧ rs.length ≤ 5 ∧ (∀ r ∈ rs, r.length ≤ 6) ∧ ∃ r ∈ rs, ∃ c ∈ r.cps.toList, c ≠ 35) := by
  unfold m_law_rows
  obtain ⟨v1, x1, a1, b1, c1⟩ := draw_call (env := [.io 0 b, .un, .un, .un, .un, .un, .un, .un, .un, .un]) (i := 0) (a := mC (.int 5)) (many := 5) hb rfl rfl (by omega)
  simp -implicitDefEqProofs [c1]
  obtain ⟨v2, x2, a2, b2, c2⟩ := draw_call (env := [.io 0 x1, .imm (.int (1 + v1)), .un, .un, .un, .un, .un, .un, .un, .un]) (i := 0) (a := mC (.int 6)) (many := 6) b1 rfl rfl (by omega)
  simp -implicitDefEqProofs [c2]
  obtain ⟨v3, x3, a3, b3, c3⟩ := draw_call (env := [.io 0 x2, .imm (.int (1 + v1)), .imm (.int (1 + v2)), .un, .un, .un, .un, .un, .un, .un]) (i := 0) (a := mC (.int 3)) (many := 3) b2 rfl rfl (by omega)
  have m3 : dMul (.int 2) (.int v3) = some (.int (2 * v3)) := mul_left (by decide) (by decide)
  simp -implicitDefEqProofs [c3, m3]
  obtain ⟨v4, x4, a4, b4, c4⟩ := draw_call (env := [.io 0 x3, .imm (.int (1 + v1)), .imm (.int (1 + v2)), .imm (.int (2 * v3)), .un, .un, .un, .un, .un, .un]) (i := 0) (a := mC (.int 4)) (many := 4) b3 rfl rfl (by omega)
  simp -implicitDefEqProofs [c4]
  have f1 : (1 + (v1 : Int)) = ((v1 + 1 : Nat) : Int) := by omega
  have f2 : (1 + (v2 : Int)) = ((v2 + 1 : Nat) : Int) := by omega
  have f3 : (2 * (v3 : Int)) = ((2 * v3 : Nat) : Int) := by omega
  rw [f1, f2, f3]
  generalize hh : v1 + 1 = high
  generalize hw : v2 + 1 = wide
  generalize hwa : 2 * v3 = walls
  obtain ⟨P, hP⟩ := inv fun k e => ∃ (x : D) (rs : List Str) (s t w : Sl), e = [.io 0 x, .imm (.int high), .imm (.int wide), .imm (.int walls), .imm (.int v4), .own (.lst (dS rs)), s, t, w, .un] ∧ t.calm = true ∧ IsBox x ∧ rs.length = k ∧ ∀ r ∈ rs, r.length = wide
  refine W_for (ds := rngD 0 high) (e0 := _) (iR1_ok (n := high) rfl (by omega)) P (by rw [hP]; exact ⟨x4, [], .un, .un, .un, rfl, rfl, b4, rfl, by simp -implicitDefEqProofs⟩) ?_ ?_
  · intro k d e hd h
    rw [hP] at h
    obtain ⟨x, rs, s, t, w, rfl, hct, hx, hl, hrs⟩ := h
    simp -implicitDefEqProofs at hd
    obtain ⟨hk, rfl⟩ := hd
    simp -implicitDefEqProofs
    obtain ⟨P2, hP2⟩ := inv fun j e => ∃ (x : D) (z : Str) (w : Sl), e = [.io 0 x, .imm (.int high), .imm (.int wide), .imm (.int walls), .imm (.int v4), .own (.lst (dS rs)), .imm (.int k), .imm (.str z), w, .un] ∧ IsBox x ∧ z.length = j
    refine W_for (ds := rngD 0 wide) (e0 := _) (iR1_ok (n := wide) rfl (by omega)) P2 (by rw [hP2]; exact ⟨x, Str.ofString "", w, rfl, hx, rfl⟩) ?_ ?_
    · intro j d e hd h
      rw [hP2] at h
      obtain ⟨x, z, w, rfl, hx, hz⟩ := h
      simp -implicitDefEqProofs at hd
      obtain ⟨hj, rfl⟩ := hd
      obtain ⟨c, x', hx', ht⟩ := tile_call (env := [.io 0 x, .imm (.int high), .imm (.int wide), .imm (.int walls), .imm (.int v4), .own (.lst (dS rs)), .imm (.int k), .imm (.str z), .imm (.int j), .un]) (walls := walls) (many := v4) (w1 := mVar 3) (w2 := mVar 4) (i := 0) hx rfl rfl rfl (by omega)
      have e3 : z.length + Str.length ⟨#[c]⟩ ≤ sizeLine := by show z.length + 1 ≤ _; exact szS (by omega)
      simp -implicitDefEqProofs [ht, e3]
      rw [hP2]
      exact ⟨x', z ++ ⟨#[c]⟩, _, rfl, hx', by rw [len_app, hz]; rfl⟩
    · intro e h
      rw [hP2] at h
      obtain ⟨x, z, w, rfl, hx, hz⟩ := h
      simp -implicitDefEqProofs at hz
      have e3 : rs.length < sizeLine := szL (by omega)
      simp -implicitDefEqProofs [e3]
      rw [hP]
      refine ⟨x, rs ++ [z], .imm (.int k), .imm (.str z), w, by simp -implicitDefEqProofs, rfl, hx, by simp -implicitDefEqProofs [hl], fun r h => ?_⟩
      simp -implicitDefEqProofs at h
      rcases h with h | rfl
      · exact hrs r h
      · exact hz
  · intro e h
    rw [hP] at h
    obtain ⟨x, rs, s, t, w, rfl, hct, hx, hl, hrs⟩ := h
    simp -implicitDefEqProofs at hl
    clear c1 c2 c3 c4 hP
    obtain ⟨md, d, ⟨us, rfl, hu1, hu2⟩, hus, _⟩ := call_imm (N := n_law_used) (np := 1) (mf := m_law_used) (a := cImm (mVar 5) cNil) (env := [.io 0 x, .imm (.int high), .imm (.int wide), .imm (.int walls), .imm (.int v4), .own (.lst (dS rs)), s, t, w, .un]) (e1 := [.io 0 x, .imm (.int high), .imm (.int wide), .imm (.int walls), .imm (.int v4), .imm (.lst (dS rs)), s, t, w, .un])
      (as := [.imm (.lst (dS rs))]) (ss := [.imm (.lst (dS rs))]) rfl rfl rfl rfl (used_ok rs (by omega))
    simp -implicitDefEqProofs [hus]
    obtain ⟨acc, e2, hlc, ⟨t2, rfl⟩, rs2, rfl, hl2, hrs2⟩ := lc_ok (vs := [7]) (mi := iAny (mVar 5)) (gf := gN 7) (mt := mYes) (me := mCallV n_law_renamed 2 m_law_renamed (cImm (mVar 7) (cBor 9 cNil))) (env := [.io 0 x, .imm (.int high), .imm (.int wide), .imm (.int walls), .imm (.int v4), .imm (.lst (dS rs)), s, t, w, .imm (.lst (dN us))])
      (e0 := [.io 0 x, .imm (.int high), .imm (.int wide), .imm (.int walls), .imm (.int v4), .imm (.lst (dS rs)), s, t, w, .imm (.lst (dN us))]) (ds := dS rs) rfl (by simp -implicitDefEqProofs [calmAt, hct]) (by simp -implicitDefEqProofs; omega)
      (fun e => ∃ t, e = [.io 0 x, .imm (.int high), .imm (.int wide), .imm (.int walls), .imm (.int v4), .imm (.lst (dS rs)), s, t, w, .imm (.lst (dN us))])
      (fun k acc => ∃ rs' : List Str, acc = dS rs' ∧ rs'.length = k ∧ ∀ r ∈ rs', r.length = wide) ⟨t, rfl⟩ ⟨[], rfl, rfl, by simp -implicitDefEqProofs⟩ (by
        rintro i d e acc hd ⟨t', rfl⟩ ⟨rs', rfl, hl', hr'⟩
        simp -implicitDefEqProofs at hd
        obtain ⟨r, hr, rfl⟩ := hd
        have hrl := hrs r (List.mem_of_getElem? hr)
        obtain ⟨md, d, ⟨z, rfl, hz⟩, hre, _⟩ := call_imm (N := n_law_renamed) (np := 2) (mf := m_law_renamed) (a := cImm (mVar 7) (cBor 9 cNil)) (env := [.io 0 x, .imm (.int high), .imm (.int wide), .imm (.int walls), .imm (.int v4), .imm (.lst (dS rs)), s, .imm (.str r), w, .imm (.lst (dN us))]) (e1 := [.io 0 x, .imm (.int high), .imm (.int wide), .imm (.int walls), .imm (.int v4), .imm (.lst (dS rs)), s, .imm (.str r), w, .imm (.lst (dN us))])
          (as := [.imm (.str r), .bor 9]) (ss := [.imm (.str r), .imm (.lst (dN us))]) rfl rfl rfl rfl (renamed_ok r us (by omega) hu1 hu2)
        refine ⟨_, true, _, rfl, rfl, fun _ => ⟨.str z, _, hre, ⟨_, rfl⟩, rs' ++ [z], by simp -implicitDefEqProofs, by simp -implicitDefEqProofs [hl'], fun r h => ?_⟩, by simp -implicitDefEqProofs⟩
        simp -implicitDefEqProofs at h
        rcases h with h | rfl
        · exact hr' r h
        · omega)
    simp -implicitDefEqProofs at hl2
    simp -implicitDefEqProofs [hlc, wipeE, backE]
    have g1 : high ≤ 5 := by omega
    have g2 : wide ≤ 6 := by omega
    clear hlc hus f1 f2 f3 a1 a2 a3 a4 b1 b2 b3 b4 m3
    have hne : 0 < rs2.length := by omega
    obtain ⟨md, d, ⟨b, rfl, hd⟩, hdo, _⟩ := call_imm (N := n_law_has_door) (np := 1) (mf := m_law_has_door) (a := cImm (mVar 5) cNil) (env := [.io 0 x, .imm (.int high), .imm (.int wide), .imm (.int walls), .imm (.int v4), .own (.lst (dS rs2)), s, t, w, .imm (.lst (dN us))]) (e1 := [.io 0 x, .imm (.int high), .imm (.int wide), .imm (.int walls), .imm (.int v4), .imm (.lst (dS rs2)), s, t, w, .imm (.lst (dN us))])
      (as := [.imm (.lst (dS rs2))]) (ss := [.imm (.lst (dS rs2))]) rfl rfl rfl rfl (has_door_ok rs2 (by omega))
    simp -implicitDefEqProofs [hdo]
    cases b with
    | true =>
      simp -implicitDefEqProofs
      exact ⟨hx, rs2, rfl, by omega, fun r h => by have := hrs2 r h; omega, by simpa using hd rfl⟩
    | false =>
      simp -implicitDefEqProofs
      obtain ⟨r, rs3, rfl⟩ : ∃ r rs3, rs2 = r :: rs3 := by
        cases rs2 with
        | nil => simp -implicitDefEqProofs at hne
        | cons r rs3 => exact ⟨r, rs3, rfl⟩
      have hr := hrs2 r (by simp -implicitDefEqProofs)
      obtain ⟨md, d, ⟨rfl, rs4, rfl, h5, h6, h7⟩, _, hwd⟩ := call_imm (N := n_law_with_door) (np := 1) (mf := m_law_with_door) (a := cBor 5 cNil) (env := [.io 0 x, .imm (.int high), .imm (.int wide), .imm (.int walls), .imm (.int v4), .imm (.lst (dS (r :: rs3))), s, t, w, .imm (.lst (dN us))]) (e1 := [.io 0 x, .imm (.int high), .imm (.int wide), .imm (.int walls), .imm (.int v4), .imm (.lst (dS (r :: rs3))), s, t, w, .imm (.lst (dN us))])
        (as := [.bor 5]) (ss := [.imm (.lst (dS (r :: rs3)))]) rfl rfl rfl rfl (with_door_ok r rs3 (by simp -implicitDefEqProofs at hl2; omega) (by omega) (by omega) (fun r' h => by have := hrs2 r' (by simp -implicitDefEqProofs [h]); omega))
      have hwd' := hwd rfl
      simp -implicitDefEqProofs at hwd'
      simp -implicitDefEqProofs [hwd']
      exact ⟨hx, rs4, rfl, by simp -implicitDefEqProofs at hl2; omega, h6, by simpa using h7⟩
end Law
namespace Law
open PySem L2 Q
abbrev pt (p : Nat × Nat) : D := .tup [.int (p.1 : Nat), .int (p.2 : Nat)]
abbrev dP (ps : List (Nat × Nat)) : List D := ps.map pt
abbrev dNN (rs : List (List Nat)) : List D := rs.map fun r => .lst (dN r)
theorem sz2 : 2 ≤ sizeLine := by decide
theorem cps_lt {r : Str} {j : Nat} (h : j < r.length) : ∃ c, r.cps.toList[j]? = some c ∧ dIx (.str r) (.int j) = if r.length ≤ sizeLine then some (.str ⟨#[c]⟩) else none := by
  have h' : j < r.cps.toList.length := by rw [len_cps]; exact h
  refine ⟨r.cps.toList[j], List.getElem?_eq_getElem h', ?_⟩
  rw [Q.ix_str, atI_cast, List.getElem?_eq_getElem h']; rfl
theorem places_ok (rs : List Str) (h1 : rs.length ≤ 5) (h2 : ∀ r ∈ rs, r.length ≤ 6) (h3 : ∃ r ∈ rs, ∃ c ∈ r.cps.toList, c ≠ 35) : W m_law_places [.imm (.lst (dS rs)), .un, .un, .un]
    (Rt fun md d => ∃ ps : List (Nat × Nat), d = .lst (dP ps) ∧ 0 < ps.length ∧ ps.length ≤ 30 ∧ ∀ p ∈ ps, ∃ r, rs[p.1]? = some r ∧ p.2 < r.length) := by
  have q3 : (Str.ofString "#") = ⟨#[35]⟩ := by decide +kernel
  unfold m_law_places
  have q5 : 0 ≤ sizeLine := by decide
  simp -implicitDefEqProofs [q5]
  obtain ⟨P, hP⟩ := inv fun k e => ∃ (ps : List (Nat × Nat)) (s t : Sl), e = [.imm (.lst (dS rs)), .own (.lst (dP ps)), s, t] ∧ ps.length ≤ 6 * k ∧ (∀ p ∈ ps, ∃ r, rs[p.1]? = some r ∧ p.2 < r.length) ∧ ∀ i r, i < k → rs[i]? = some r → (∃ c ∈ r.cps.toList, c ≠ 35) → 0 < ps.length
  refine W_for (ds := rngD 0 rs.length) (e0 := _) (iR1_ok (n := rs.length) (by simp -implicitDefEqProofs; rfl) (by omega)) P (by rw [hP]; exact ⟨[], .un, .un, rfl, by simp -implicitDefEqProofs, by simp -implicitDefEqProofs, fun i r h => by omega⟩) ?_ ?_
  · intro k d e hd h
    rw [hP] at h
    obtain ⟨ps, s, t, rfl, hl, hv, hn⟩ := h
    simp -implicitDefEqProofs at hd
    obtain ⟨hk, rfl⟩ := hd
    simp -implicitDefEqProofs
    have hr : rs[k]? = some rs[k] := List.getElem?_eq_getElem hk
    generalize rs[k] = r at hr
    have hrl := h2 r (List.mem_of_getElem? hr)
    have hsz : r.length ≤ sizeLine := szS (by omega)
    obtain ⟨P2, hP2⟩ := inv fun j e => ∃ (ps : List (Nat × Nat)) (t : Sl), e = [.imm (.lst (dS rs)), .own (.lst (dP ps)), .imm (.int k), t] ∧ ps.length ≤ 6 * k + j ∧ (∀ p ∈ ps, ∃ r, rs[p.1]? = some r ∧ p.2 < r.length) ∧ (∀ i r, i < k → rs[i]? = some r → (∃ c ∈ r.cps.toList, c ≠ 35) → 0 < ps.length) ∧ ∀ i c, i < j → r.cps.toList[i]? = some c → c ≠ 35 → 0 < ps.length
    refine W_for (ds := rngD 0 r.length) (e0 := _) (iR1_ok (n := r.length) (by simp -implicitDefEqProofs [hr, hsz]; rfl) (by omega)) P2 (by rw [hP2]; exact ⟨ps, t, rfl, by omega, hv, hn, fun i c h => by omega⟩) ?_ ?_
    · intro j d e hd h
      rw [hP2] at h
      obtain ⟨ps, t, rfl, hl, hv, hn, hm⟩ := h
      simp -implicitDefEqProofs at hd
      obtain ⟨hj, rfl⟩ := hd
      obtain ⟨c, hc, hix⟩ := cps_lt hj
      rw [if_pos hsz] at hix
      have e3 : ps.length < sizeLine := szL (by omega)
      have e4 : (Str.mk #[c] = Str.mk #[35]) ↔ c = 35 := by simp -implicitDefEqProofs
      simp -implicitDefEqProofs [hr, hix, q3, e3, e4, sz2]
      by_cases h35 : c = 35
      · simp -implicitDefEqProofs [h35]
        rw [hP2]
        refine ⟨ps, .imm (.int j), rfl, by omega, hv, hn, fun i c' hi hc' h' => ?_⟩
        by_cases hij : i = j
        · rw [hij, hc] at hc'; cases hc'; exact absurd h35 h'
        · exact hm i c' (by omega) hc' h'
      · simp -implicitDefEqProofs [h35]
        rw [hP2]
        refine ⟨ps ++ [(k, j)], .imm (.int j), by simp -implicitDefEqProofs, by simp -implicitDefEqProofs; omega, fun p hp => ?_, by simp -implicitDefEqProofs, by simp -implicitDefEqProofs⟩
        simp -implicitDefEqProofs at hp
        rcases hp with hp | rfl
        · exact hv p hp
        · exact ⟨r, hr, hj⟩
    · intro e h
      rw [hP2] at h
      obtain ⟨ps, t, rfl, hl, hv, hn, hm⟩ := h
      simp -implicitDefEqProofs at hl hm
      simp -implicitDefEqProofs
      rw [hP]
      refine ⟨ps, _, _, rfl, by omega, hv, fun i r' hi hr' hc => ?_⟩
      by_cases hik : i = k
      · rw [hik, hr] at hr'; cases hr'
        obtain ⟨c, hc, h35⟩ := hc
        obtain ⟨n, hn', hnc⟩ := List.getElem_of_mem hc
        refine hm n c (by rw [len_cps] at hn'; exact hn') ?_ h35
        have := List.getElem?_eq_getElem hn'
        rw [hnc] at this
        simpa using this
      · exact hn i r' (by omega) hr' hc
  · intro e h
    rw [hP] at h
    obtain ⟨ps, s, t, rfl, hl, hv, hn⟩ := h
    simp -implicitDefEqProofs at hl hn
    simp -implicitDefEqProofs
    obtain ⟨r, hr, c, hc, h35⟩ := h3
    obtain ⟨n, hn', hnr⟩ := List.getElem_of_mem hr
    have h0 := hn n r hn' (by rw [List.getElem?_eq_getElem hn', hnr]) c (by simpa using hc) h35
    refine ⟨ps, rfl, h0, by omega, ?_⟩
    simpa using hv
end Law
namespace Law
open PySem L2 Q
/-- one step apart -/
def adjP (p q : Nat × Nat) : Prop := (if (p.1 : Int) - q.1 < 0 then -((p.1 : Int) - q.1) else (p.1 : Int) - q.1) + (if (p.2 : Int) - q.2 < 0 then -((p.2 : Int) - q.2) else (p.2 : Int) - q.2) = 1
instance (p q : Nat × Nat) : Decidable (adjP p q) := by unfold adjP; infer_instance
theorem adjP_symm {p q : Nat × Nat} (h : adjP p q) : adjP q p := by
  unfold adjP at *
  split at h <;> split at h <;> split <;> split <;> omega
def NearOk (ps : List (Nat × Nat)) (i : Nat) (row : List Nat) : Prop := row.length ≤ ps.length ∧ ∀ o, o ∈ row ↔ ∃ p q, ps[i]? = some p ∧ ps[o]? = some q ∧ adjP p q
theorem near_ok (ps : List (Nat × Nat)) (h1 : ps.length ≤ 30) : W m_law_near [.imm (.lst (dP ps)), .un, .un, .un, .un, .un, .un]
    (Rt fun md d => ∃ ns : List (List Nat), d = .lst (dNN ns) ∧ ns.length = ps.length ∧ ∀ i row, ns[i]? = some row → NearOk ps i row) := by
  have q5 : 0 ≤ sizeLine := by decide
  unfold m_law_near
  simp -implicitDefEqProofs [q5]
  obtain ⟨P, hP⟩ := inv fun k e => ∃ (ns : List (List Nat)) (s t u v w : Sl), e = [.imm (.lst (dP ps)), .own (.lst (dNN ns)), s, t, u, v, w] ∧ ns.length = k ∧ ∀ i row, ns[i]? = some row → NearOk ps i row
  refine W_for (ds := rngD 0 ps.length) (e0 := _) (iR1_ok (n := ps.length) (by simp -implicitDefEqProofs; rfl) (by omega)) P (by rw [hP]; exact ⟨[], .un, .un, .un, .un, .un, rfl, rfl, by simp -implicitDefEqProofs⟩) ?_ ?_
  · intro k d e hd h
    rw [hP] at h
    obtain ⟨ns, s, t, u, v, w, rfl, hl, hv⟩ := h
    simp -implicitDefEqProofs at hd
    obtain ⟨hk, rfl⟩ := hd
    simp -implicitDefEqProofs [q5]
    have hr : ps[k]? = some ps[k] := List.getElem?_eq_getElem hk
    generalize ps[k] = p at hr
    obtain ⟨P2, hP2⟩ := inv fun j e => ∃ (row : List Nat) (u v w : Sl), e = [.imm (.lst (dP ps)), .own (.lst (dNN ns)), .imm (.int k), .own (.lst (dN row)), u, v, w] ∧ row.length ≤ j ∧ ∀ o, o ∈ row ↔ o < j ∧ ∃ p q, ps[k]? = some p ∧ ps[o]? = some q ∧ adjP p q
    refine W_for (ds := rngD 0 ps.length) (e0 := _) (iR1_ok (n := ps.length) (by simp -implicitDefEqProofs; rfl) (by omega)) P2 (by rw [hP2]; exact ⟨[], u, v, w, rfl, by simp -implicitDefEqProofs, by simp -implicitDefEqProofs⟩) ?_ ?_
    · intro j d e hd h
      rw [hP2] at h
      obtain ⟨row, u, v, w, rfl, hl2, hv2⟩ := h
      simp -implicitDefEqProofs at hd
      obtain ⟨hj, rfl⟩ := hd
      have hq : ps[j]? = some ps[j] := List.getElem?_eq_getElem hj
      generalize ps[j] = q at hq
      have e3 : row.length < sizeLine := szL (by omega)
      have key : ∀ o, (o < j + 1 ∧ ∃ p q, ps[k]? = some p ∧ ps[o]? = some q ∧ adjP p q) ↔ (o < j ∧ ∃ p q, ps[k]? = some p ∧ ps[o]? = some q ∧ adjP p q) ∨ (o = j ∧ adjP p q) := fun o => by
        constructor
        · rintro ⟨ho, p', q', h1, h2, h3⟩
          by_cases hoj : o = j
          · subst hoj
            rw [hr] at h1; rw [hq] at h2; cases h1; cases h2
            exact .inr ⟨rfl, h3⟩
          · exact .inl ⟨by omega, p', q', h1, h2, h3⟩
        · rintro (⟨ho, h⟩ | ⟨rfl, h⟩)
          · exact ⟨by omega, h⟩
          · exact ⟨by omega, p, q, hr, hq, h⟩
      by_cases hadj : adjP p q
      · have ha := hadj
        unfold adjP at ha
        simp -implicitDefEqProofs [hr, hq, e3, ha]
        rw [hP2]
        refine ⟨row ++ [j], _, _, _, by simp -implicitDefEqProofs; exact ⟨rfl, rfl, rfl⟩, by simp -implicitDefEqProofs; omega, fun o => ?_⟩
        rw [key o, ← hv2 o]
        simp -implicitDefEqProofs [hadj]
      · have ha := hadj
        unfold adjP at ha
        simp -implicitDefEqProofs [hr, hq, e3, ha]
        rw [hP2]
        refine ⟨row, _, _, _, rfl, by omega, fun o => ?_⟩
        rw [key o, ← hv2 o]
        simp -implicitDefEqProofs [hadj]
    · intro e h
      rw [hP2] at h
      obtain ⟨row, u, v, w, rfl, hl2, hv2⟩ := h
      simp -implicitDefEqProofs at hl2
      have e3 : ns.length < sizeLine := szL (by omega)
      simp -implicitDefEqProofs [e3]
      rw [hP]
      refine ⟨ns ++ [row], .imm (.int k), .imm (.lst (dN row)), u, v, w, by simp -implicitDefEqProofs, by simp -implicitDefEqProofs [hl], fun i row' hi => ?_⟩
      by_cases hik : i < ns.length
      · rw [List.getElem?_append_left hik] at hi
        exact hv i row' hi
      · rw [List.getElem?_append_right (by omega)] at hi
        have : i - ns.length = 0 := by
          by_cases h0 : i - ns.length = 0
          · exact h0
          · rw [List.getElem?_eq_none (by simp -implicitDefEqProofs; omega)] at hi; cases hi
        rw [this] at hi
        simp -implicitDefEqProofs at hi
        subst hi
        have hik' : i = k := by omega
        subst hik'
        refine ⟨hl2, fun o => ?_⟩
        rw [hv2 o]
        simp -implicitDefEqProofs
        intro a b _ c d hq' _
        exact (List.getElem?_eq_some_iff.mp hq').1
  · intro e h
    rw [hP] at h
    obtain ⟨ns, s, t, u, v, w, rfl, hl, hv⟩ := h
    simp -implicitDefEqProofs at hl
    simp -implicitDefEqProofs
    exact ⟨ns, rfl, hl, hv⟩
end Law
namespace Law
open PySem L2 Q
def PlacesOk (rs : List Str) (ps : List (Nat × Nat)) : Prop := ∀ p ∈ ps, ∃ r, rs[p.1]? = some r ∧ p.2 < r.length
theorem tile_at {rs : List Str} {ps : List (Nat × Nat)} (h2 : ∀ r ∈ rs, r.length ≤ 6) (hp : PlacesOk rs ps) {j : Nat} (hj : j < ps.length) :
    ∃ (p : Nat × Nat) (r : Str) (c : Nat), ps[j]? = some p ∧ rs[p.1]? = some r ∧ dIx (.str r) (.int p.2) = some (.str ⟨#[c]⟩) := by
  have hq : ps[j]? = some ps[j] := List.getElem?_eq_getElem hj
  obtain ⟨r, hr, hl⟩ := hp _ (List.getElem_mem hj)
  obtain ⟨c, hc, hix⟩ := cps_lt hl
  have := h2 r (List.mem_of_getElem? hr)
  rw [if_pos (szS (by omega))] at hix
  exact ⟨_, r, c, hq, hr, hix⟩
theorem doors_ok (rs : List Str) (ps : List (Nat × Nat)) (h1 : ps.length ≤ 30) (h2 : ∀ r ∈ rs, r.length ≤ 6) (hp : PlacesOk rs ps) : W m_law_doors [.imm (.lst (dS rs)), .imm (.lst (dP ps)), .un]
    (Rt fun md d => ∃ ds : List Nat, d = .lst (dN ds) ∧ ds.length ≤ ps.length ∧ ∀ x ∈ ds, x < ps.length) := by
  unfold m_law_doors
  simp -implicitDefEqProofs only [W_retF]
  obtain ⟨acc, e2, hlc, ⟨t2, rfl⟩, ds, rfl, hl, hv⟩ := lc_ok (vs := [2]) (mi := (iR1 (aCons (mBi dLen (bCons (lVar 1) bNil)) aNil))) (gf := gN 2) (mt := (mTest (mBin (dIn false) (lFix (mBin dIx (lFix (mBin dIx (lVar 0) (lFix (mBin dIx (lFix (mBin dIx (lVar 1) (lVar 2))) (lFix (mC (.int 0))))))) (lFix (mBin dIx (lFix (mBin dIx (lVar 1) (lVar 2))) (lFix (mC (.int 1))))))) (lFix (mC (.str "+abcdefgh")))))) (me := mVar 2) (env := [.imm (.lst (dS rs)), .imm (.lst (dP ps)), .un])
      (e0 := [.imm (.lst (dS rs)), .imm (.lst (dP ps)), .un]) (ds := rngD 0 ps.length) (iR1_ok (by simp -implicitDefEqProofs) (by omega)) rfl (by simp -implicitDefEqProofs; omega)
      (fun e => ∃ t, e = [.imm (.lst (dS rs)), .imm (.lst (dP ps)), t])
      (fun k acc => ∃ ds : List Nat, acc = dN ds ∧ ds.length ≤ k ∧ ∀ x ∈ ds, x < ps.length) ⟨.un, rfl⟩ ⟨[], rfl, by simp -implicitDefEqProofs, by simp -implicitDefEqProofs⟩ (by
        rintro i d e acc hd ⟨t', rfl⟩ ⟨ds, rfl, hl, hv⟩
        simp -implicitDefEqProofs at hd
        obtain ⟨hi, rfl⟩ := hd
        obtain ⟨p, r, c, hpj, hr, hix⟩ := tile_at h2 hp hi
        refine ⟨_, decide (c ∈ (Str.ofString "+abcdefgh").cps.toList), [.imm (.lst (dS rs)), .imm (.lst (dP ps)), .imm (.int i)], rfl, by simp -implicitDefEqProofs [hpj, hr, hix, wipeE], fun _ => ⟨.int i, _, rfl, ⟨_, rfl⟩, ds ++ [i], by simp -implicitDefEqProofs, by simp -implicitDefEqProofs; omega, fun x hx => ?_⟩, fun _ => ⟨⟨_, rfl⟩, ds, rfl, by omega, hv⟩⟩
        simp -implicitDefEqProofs at hx
        rcases hx with hx | rfl
        · exact hv x hx
        · exact hi)
  simp -implicitDefEqProofs [hlc]
  exact ⟨ds, rfl, by simpa using hl, hv⟩
theorem stations_ok (rs : List Str) (ps : List (Nat × Nat)) (h1 : ps.length ≤ 30) (h2 : ∀ r ∈ rs, r.length ≤ 6) (hp : PlacesOk rs ps) : W m_law_stations [.imm (.lst (dS rs)), .imm (.lst (dP ps)), .un, .un, .un, .un, .un]
    (Rt fun md d => ∃ ss : List (List Nat), d = .lst (dNN ss) ∧ ss.length ≤ 8 ∧ ∀ s ∈ ss, s.length ≤ 30) := by
  have q5 : 0 ≤ sizeLine := by decide
  have q1 : (Str.ofString "abcdefgh").length ≤ sizeLine := by decide
  have q2 : (Str.ofString "ABCDEFGH").length ≤ sizeLine := by decide
  have q3 : (Str.ofString "abcdefgh").cps.toList.length = 8 := by decide +kernel
  have q4 : (Str.ofString "ABCDEFGH").cps.toList.length = 8 := by decide +kernel
  unfold m_law_stations
  simp -implicitDefEqProofs [q5]
  obtain ⟨P, hP⟩ := inv fun k e => ∃ (ss : List (List Nat)) (s t u v : Sl), e = [.imm (.lst (dS rs)), .imm (.lst (dP ps)), .own (.lst (dNN ss)), s, t, u, v] ∧ ss.length ≤ k ∧ ∀ s ∈ ss, s.length ≤ 30
  refine W_for (ds := rngD 0 8) (e0 := _) (iR1_ok (n := 8) rfl (by omega)) P (by rw [hP]; exact ⟨[], .un, .un, .un, .un, rfl, by simp -implicitDefEqProofs, by simp -implicitDefEqProofs⟩) ?_ ?_
  · intro k d e hd h
    rw [hP] at h
    obtain ⟨ss, s, t, u, v, rfl, hl, hv⟩ := h
    simp -implicitDefEqProofs at hd
    obtain ⟨hk, rfl⟩ := hd
    simp -implicitDefEqProofs [q5]
    have r1 : dIx (.str (Str.ofString "abcdefgh")) (.int k) = some (.str ⟨#[(Str.ofString "abcdefgh").cps.toList[k]'(by rw [q3]; omega)]⟩) := ix_str_at q1 _
    have r2 : dIx (.str (Str.ofString "ABCDEFGH")) (.int k) = some (.str ⟨#[(Str.ofString "ABCDEFGH").cps.toList[k]'(by rw [q4]; omega)]⟩) := ix_str_at q2 _
    obtain ⟨P2, hP2⟩ := inv fun j e => ∃ (row : List Nat) (u v : Sl), e = [.imm (.lst (dS rs)), .imm (.lst (dP ps)), .own (.lst (dNN ss)), .imm (.int k), .own (.lst (dN row)), u, v] ∧ row.length ≤ j
    refine W_for (ds := rngD 0 ps.length) (e0 := _) (iR1_ok (n := ps.length) (by simp -implicitDefEqProofs; rfl) (by omega)) P2 (by rw [hP2]; exact ⟨[], u, v, rfl, by simp -implicitDefEqProofs⟩) ?_ ?_
    · intro j d e hd h
      rw [hP2] at h
      obtain ⟨row, u, v, rfl, hl2⟩ := h
      simp -implicitDefEqProofs at hd
      obtain ⟨hj, rfl⟩ := hd
      obtain ⟨p, r, c, hpj, hr, hix⟩ := tile_at h2 hp hj
      have e3 : row.length < sizeLine := szL (by omega)
      simp -implicitDefEqProofs [hpj, hr, hix, r1, r2, e3]
      refine W_ite (fun _ => ?_) (fun _ => ?_)
      · rw [hP2]
        exact ⟨row ++ [j], _, _, by simp -implicitDefEqProofs; exact ⟨rfl, rfl⟩, by simp -implicitDefEqProofs; omega⟩
      · rw [hP2]
        exact ⟨row, _, _, rfl, by omega⟩
    · intro e h
      rw [hP2] at h
      obtain ⟨row, u, v, rfl, hl2⟩ := h
      simp -implicitDefEqProofs at hl2
      have e3 : ss.length < sizeLine := szL (by omega)
      simp -implicitDefEqProofs [e3]
      refine W_ite (fun _ => ?_) (fun _ => ?_)
      · rw [hP]
        refine ⟨ss ++ [row], .imm (.int k), .imm (.lst (dN row)), u, v, by simp -implicitDefEqProofs, by simp -implicitDefEqProofs; omega, fun s hs => ?_⟩
        simp -implicitDefEqProofs at hs
        rcases hs with hs | rfl
        · exact hv s hs
        · omega
      · rw [hP]
        exact ⟨ss, _, _, _, _, rfl, by omega, hv⟩
  · intro e h
    rw [hP] at h
    obtain ⟨ss, s, t, u, v, rfl, hl, hv⟩ := h
    simp -implicitDefEqProofs at hl
    simp -implicitDefEqProofs
    exact ⟨ss, rfl, hl, hv⟩
end Law
namespace Law
open PySem L2 Q
/-- a floor: cells that see each other, doors -/
structure IsFl (ns : List (List Nat)) (ds : List Nat) : Prop where
  pos : 0 < ns.length
  le : ns.length ≤ 30
  row : ∀ (i : Nat) (row : List Nat), ns[i]? = some row → row.length ≤ 30 ∧ ∀ o ∈ row, ∃ row', ns[o]? = some row' ∧ i ∈ row'
  dl : ds.length ≤ 30
  dlt : ∀ x ∈ ds, x < ns.length
  nol : ∀ (i : Nat) (row : List Nat), ns[i]? = some row → i ∉ row
theorem made_ok {b : D} (hb : IsBox b) : W m_law_made [.io 0 b, .un, .un, .un] (RtIo 0 fun md d x => IsBox x ∧ ∃ (ns : List (List Nat)) (ds : List Nat) (ss : List (List Nat)), d = .lst [.lst (dNN ns), .lst (dN ds), .lst (dNN ss)] ∧ IsFl ns ds ∧ ss.length ≤ 8 ∧ ∀ s ∈ ss, s.length ≤ 30) := by
  have q5 : 3 ≤ sizeLine := szS (by omega)
  unfold m_law_made
  obtain ⟨md, d, x, ⟨hx, rs, rfl, h1, h2, h3⟩, c1, _⟩ := call_io (N := n_law_rows) (np := 1) (mf := m_law_rows) (a := cIo 0 cNil) (env := [.io 0 b, .un, .un, .un]) (e1 := [.io 0 b, .un, .un, .un]) (as := [.io 0]) (ss := [.io 0 b]) (i := 0) (j := 0) rfl rfl (by simp -implicitDefEqProofs [borsOf]) rfl rfl rfl (rows_ok hb)
  simp -implicitDefEqProofs [c1]
  obtain ⟨md, d, ⟨ps, rfl, p1, p2, p3⟩, c2, _⟩ := call_imm (N := n_law_places) (np := 1) (mf := m_law_places) (a := cBor 1 cNil) (env := [.io 0 x, .imm (.lst (dS rs)), .un, .un]) (e1 := [.io 0 x, .imm (.lst (dS rs)), .un, .un]) (as := [.bor 1]) (ss := [.imm (.lst (dS rs))]) rfl rfl rfl rfl (places_ok rs h1 h2 h3)
  simp -implicitDefEqProofs [c2]
  obtain ⟨md, d, ⟨ns, rfl, n1, n2⟩, c3, _⟩ := call_imm (N := n_law_near) (np := 1) (mf := m_law_near) (a := cBor 2 cNil) (env := [.io 0 x, .imm (.lst (dS rs)), .imm (.lst (dP ps)), .un]) (e1 := [.io 0 x, .imm (.lst (dS rs)), .imm (.lst (dP ps)), .un]) (as := [.bor 2]) (ss := [.imm (.lst (dP ps))]) rfl rfl rfl rfl (near_ok ps p2)
  obtain ⟨md, d, ⟨ds, rfl, d1, d2⟩, c4, _⟩ := call_imm (N := n_law_doors) (np := 2) (mf := m_law_doors) (a := cBor 1 (cBor 2 cNil)) (env := [.io 0 x, .imm (.lst (dS rs)), .imm (.lst (dP ps)), .imm (.lst (dNN ns))]) (e1 := [.io 0 x, .imm (.lst (dS rs)), .imm (.lst (dP ps)), .imm (.lst (dNN ns))]) (as := [.bor 1, .bor 2]) (ss := [.imm (.lst (dS rs)), .imm (.lst (dP ps))]) rfl rfl rfl rfl (doors_ok rs ps p2 h2 p3)
  obtain ⟨md, d, ⟨ss, rfl, s1, s2⟩, c5, _⟩ := call_imm (N := n_law_stations) (np := 2) (mf := m_law_stations) (a := cBor 1 (cBor 2 cNil)) (env := [.io 0 x, .imm (.lst (dS rs)), .imm (.lst (dP ps)), .imm (.lst (dNN ns))]) (e1 := [.io 0 x, .imm (.lst (dS rs)), .imm (.lst (dP ps)), .imm (.lst (dNN ns))]) (as := [.bor 1, .bor 2]) (ss := [.imm (.lst (dS rs)), .imm (.lst (dP ps))]) rfl rfl rfl rfl (stations_ok rs ps p2 h2 p3)
  simp -implicitDefEqProofs [c3, c4, c5, q5]
  refine ⟨hx, ns, ds, ss, ⟨rfl, rfl, rfl⟩, ⟨by omega, by omega, fun i row hr => ⟨by have := (n2 i row hr).1; omega, fun o ho => ?_⟩, by omega, (fun x hx => by have := d2 x hx; omega), fun i row hr h => ?_⟩, s1, s2⟩
  rotate_left
  · obtain ⟨p, q, e1, e2, e3⟩ := ((n2 i row hr).2 i).mp h
    rw [e1] at e2; cases e2
    unfold adjP at e3
    split at e3 <;> split at e3 <;> omega
  obtain ⟨p, q, e1, e2, e3⟩ := ((n2 i row hr).2 o).mp ho
  have ho' : o < ns.length := by have := (List.getElem?_eq_some_iff.mp e2).1; omega
  have hro := List.getElem?_eq_getElem ho'
  exact ⟨_, hro, ((n2 o _ hro).2 i).mpr ⟨q, p, e2, e1, adjP_symm e3⟩⟩
end Law
namespace Law
open PySem L2 Q
abbrev dI (ns : List Int) : List D := ns.map .int
theorem cell_ok (ns : List Int) (k : Nat) : W m_law_cell [.imm (.scr (dI ns)), .imm (.int k)] (Rt fun md d => ∃ c : Int, d = .int c) := by
  unfold m_law_cell
  simp -implicitDefEqProofs
  by_cases h : k < ns.length
  · simp -implicitDefEqProofs [h, List.getElem?_eq_getElem h]
  · simp -implicitDefEqProofs [h]
theorem pow1018 : dPow (.int 10) (.int 18) = some (.int 1000000000000000000) := by
  have h : CPow 10 18 := by unfold CPow; omega
  show (if CPow 10 18 then some (D.int (10 ^ (18 : Int).toNat)) else none) = _
  rw [if_pos h]; rfl
theorem digits_ok (ns : List Int) : W m_law_digits [.imm (.scr (dI ns)), .imm (.int 0), .imm (.int 63), .un, .un, .un, .un, .un] (Rt fun md d => ∃ ds : List Int, d = .lst (dI ds)) := by
  unfold m_law_digits
  simp -implicitDefEqProofs
  obtain ⟨P, hP⟩ := inv fun k e => ∃ (ds : List Int) (s t u v : Sl), e = [.imm (.scr (dI ns)), .imm (.int 0), .imm (.int 63), .own (.lst (dI ds)), s, t, u, v] ∧ ds.length ≤ 60 * k
  refine W_for (ds := rngD 0 63) (e0 := _) (iR2_ok (k := 0) (n := 63) rfl (by omega) (by omega)) P (by rw [hP]; exact ⟨[], .un, .un, .un, .un, rfl, by simp -implicitDefEqProofs⟩) ?_ ?_
  · intro k d e hd h
    rw [hP] at h
    obtain ⟨ds, s, t, u, v, rfl, hl⟩ := h
    simp -implicitDefEqProofs at hd
    obtain ⟨hk, rfl⟩ := hd
    obtain ⟨md, d, ⟨c, rfl⟩, c1, _⟩ := call_imm (N := n_law_cell) (np := 2) (mf := m_law_cell) (a := cImm (mVar 0) (cImm (mVar 4) cNil)) (env := [.imm (.scr (dI ns)), .imm (.int 0), .imm (.int 63), .own (.lst (dI ds)), .imm (.int k), t, u, v]) (e1 := [.imm (.scr (dI ns)), .imm (.int 0), .imm (.int 63), .own (.lst (dI ds)), .imm (.int k), t, u, v]) (as := [.imm (.scr (dI ns)), .imm (.int k)]) (ss := [.imm (.scr (dI ns)), .imm (.int k)]) rfl rfl rfl rfl (cell_ok ns k)
    have m1 : ∀ x, dMul (.int 2) (.int x) = some (.int (2 * x)) := fun x => mul_left (by decide) (by decide)
    have m2 : ∀ x, dMul (.int x) (.int 48271) = some (.int (x * 48271)) := fun x => mul_right (by decide) (by decide)
    have m3 : ∀ x, dMul (.int x) (.int 69621) = some (.int (x * 69621)) := fun x => mul_right (by decide) (by decide)
    have m4 : ∀ x, dMul (.int x) (.int 16807) = some (.int (x * 16807)) := fun x => mul_right (by decide) (by decide)
    have m5 : ∀ x, dMul (.int 7) (.int x) = some (.int (7 * x)) := fun x => mul_left (by decide) (by decide)
    have o1 : ∀ x, dMod (.int x) (.int 1000) = some (.int (x % 1000)) := fun x => mod_int (by decide)
    have o2 : ∀ x, dMod (.int x) (.int 2147483647) = some (.int (x % 2147483647)) := fun x => mod_int (by decide)
    have v1 : ∀ x, dDiv (.int x) (.int 1000) = some (.int (x / 1000)) := fun x => div_int (by decide) (by decide)
    have v2 : ∀ x, dDiv (.int x) (.int 997) = some (.int (x / 997)) := fun x => div_int (by decide) (by decide)
    obtain ⟨P2, hP2⟩ := inv fun j e => ∃ (ds : List Int) (c : Int) (u v : Sl), e = [.imm (.scr (dI ns)), .imm (.int 0), .imm (.int 63), .own (.lst (dI ds)), .imm (.int k), .imm (.int c), u, v] ∧ ds.length ≤ 60 * k + j
    have endc : ∀ e n, n ≤ 60 → P2 n e → P (k + 1) e := fun e n hn h => by
      rw [hP2] at h
      obtain ⟨ds, c, u, v, rfl, hl⟩ := h
      rw [hP]
      exact ⟨ds, _, _, _, _, rfl, by omega⟩
    have mid : ∀ c : Int, W (mIfS (mTest (mBin dGe (lVar 5) (lFix (mBin dPow (lFix (mC (.int 10))) (lFix (mC (.int 18)))))))
        (mForS (iR1 (aCons (mC (.int 60)) aNil)) (gN 6)
        (mIfS (mTest (mBin dGt (lVar 5) (lFix (mC (.int 0)))))
        (mSeq (mApp 3 (mBin dMod (lFix (mBi dInt (bCons (lVar 5) bNil))) (lFix (mC (.int 1000)))))
        (mAsg 5 (mBin dDiv (lVar 5) (lFix (mC (.int 1000))))))
        mNext))
        (mSeq (mAsg 7 (mBin dMod (lFix (mBi dInt (bCons (lFix (mBin dAdd (lFix (mBin dAdd (lFix (mBin dMul (lVar 5) (lFix (mC (.int 48271))))) (lFix (mBin dMul (lVar 4) (lFix (mC (.int 69621))))))) (lFix (mC (.int 11))))) bNil))) (lFix (mC (.int 2147483647)))))
        (mForS (iR1 (aCons (mC (.int 12)) aNil)) (gN 6)
        (mSeq (mAsg 7 (mBin dMod (lFix (mBi dInt (bCons (lFix (mBin dAdd (lFix (mBin dAdd (lFix (mBin dMul (lVar 7) (lFix (mC (.int 16807))))) (lFix (mBin dMul (lFix (mC (.int 7))) (lVar 6))))) (lFix (mC (.int 1))))) bNil))) (lFix (mC (.int 2147483647)))))
        (mApp 3 (mBin dMod (lFix (mBi dInt (bCons (lFix (mBin dDiv (lVar 7) (lFix (mC (.int 997))))) bNil))) (lFix (mC (.int 1000))))))))) [.imm (.scr (dI ns)), .imm (.int 0), .imm (.int 63), .own (.lst (dI ds)), .imm (.int k), .imm (.int c), u, v] (lp (P (k + 1)) (sqK (mRetO 3) (Rt fun md d => ∃ ds : List Int, d = .lst (dI ds)))) := fun c => by
      simp -implicitDefEqProofs [pow1018]
      by_cases hc : (1000000000000000000 : Int) ≤ c
      · rw [if_pos hc]
        refine W_for (ds := rngD 0 60) (e0 := _) (iR1_ok (n := 60) rfl (by omega)) P2 (by rw [hP2]; exact ⟨ds, c, u, v, rfl, by omega⟩) ?_ ?_
        · intro j d e hd h
          rw [hP2] at h
          obtain ⟨ds, c, u, v, rfl, hl2⟩ := h
          simp -implicitDefEqProofs at hd
          obtain ⟨hj, rfl⟩ := hd
          have e3 : ds.length < sizeLine := szL (by omega)
          by_cases hc : 0 < c
          · simp -implicitDefEqProofs [hc, e3, o1, v1]
            rw [hP2]
            exact ⟨ds ++ [c % 1000], c / 1000, _, v, by simp -implicitDefEqProofs; rfl, by simp -implicitDefEqProofs; omega⟩
          · simp -implicitDefEqProofs [hc]
            rw [hP2]
            exact ⟨ds, c, _, v, rfl, by omega⟩
        · intro e h
          exact endc e 60 (by omega) (by simpa using h)
      · rw [if_neg hc]
        simp -implicitDefEqProofs [m2, m3, o2]
        obtain ⟨P3, hP3⟩ := inv fun j e => ∃ (ds : List Int) (u : Sl) (w : Int), e = [.imm (.scr (dI ns)), .imm (.int 0), .imm (.int 63), .own (.lst (dI ds)), .imm (.int k), .imm (.int c), u, .imm (.int w)] ∧ ds.length ≤ 60 * k + j
        refine W_for (ds := rngD 0 12) (e0 := _) (iR1_ok (n := 12) rfl (by omega)) P3 (by rw [hP3]; exact ⟨ds, u, _, rfl, by omega⟩) ?_ ?_
        · intro j d e hd h
          rw [hP3] at h
          obtain ⟨ds, u, w, rfl, hl2⟩ := h
          simp -implicitDefEqProofs at hd
          obtain ⟨hj, rfl⟩ := hd
          have e3 : ds.length < sizeLine := szL (by omega)
          simp -implicitDefEqProofs [e3, m4, m5, o1, o2, v2]
          rw [hP3]
          exact ⟨ds ++ [_], _, _, by simp -implicitDefEqProofs; exact ⟨rfl, rfl, rfl⟩, by simp -implicitDefEqProofs; omega⟩
        · intro e h
          rw [hP3] at h
          obtain ⟨ds, u, w, rfl, hl2⟩ := h
          simp -implicitDefEqProofs at hl2
          show P (k + 1) _
          rw [hP]
          exact ⟨ds, _, _, _, _, rfl, by omega⟩
    refine ⟨[.imm (.scr (dI ns)), .imm (.int 0), .imm (.int 63), .own (.lst (dI ds)), .imm (.int k), t, u, v], by simp -implicitDefEqProofs, ?_⟩
    rw [W_seq, W_asg, c1, Gt_some]
    refine ⟨by simp -implicitDefEqProofs, ?_⟩
    show W (mSeq _ _) [.imm (.scr (dI ns)), .imm (.int 0), .imm (.int 63), .own (.lst (dI ds)), .imm (.int k), .imm (.int c), u, v] _
    rw [W_seq, W_if]
    have ht : mTest (mBin dLt (lVar 5) (lFix (mC (.int 0)))) [.imm (.scr (dI ns)), .imm (.int 0), .imm (.int 63), .own (.lst (dI ds)), .imm (.int k), .imm (.int c), u, v] = some (decide (c < 0), [.imm (.scr (dI ns)), .imm (.int 0), .imm (.int 63), .own (.lst (dI ds)), .imm (.int k), .imm (.int c), u, v]) := by simp -implicitDefEqProofs
    rw [ht, Gt_some]
    by_cases hc : c < 0
    · rw [if_pos (by simpa using hc), W_asg]
      have ha : mBin dSub (lFix (mC (.int 1))) (lFix (mBin dMul (lFix (mC (.int 2))) (lVar 5))) [.imm (.scr (dI ns)), .imm (.int 0), .imm (.int 63), .own (.lst (dI ds)), .imm (.int k), .imm (.int c), u, v] = some (.int (1 - 2 * c), [.imm (.scr (dI ns)), .imm (.int 0), .imm (.int 63), .own (.lst (dI ds)), .imm (.int k), .imm (.int c), u, v]) := by simp -implicitDefEqProofs [m1]
      rw [ha, Gt_some]
      exact ⟨by simp -implicitDefEqProofs, mid _⟩
    · rw [if_neg (by simpa using hc), W_next]
      exact mid _
  · intro e h
    rw [hP] at h
    obtain ⟨ds, s, t, u, v, rfl, hl⟩ := h
    simp -implicitDefEqProofs
    exact ⟨ds, rfl⟩
end Law
namespace Law
open PySem L2 Q
theorem some_ok {b : D} {many most : Nat} (hb : IsBox b) (hm : 0 < many) (hmost : most ≤ 100) : W m_law_some [.io 0 b, .imm (.int many), .imm (.int most), .un, .un, .un]
    (RtIo 0 fun md d x => IsBox x ∧ ∃ cs : List Nat, d = .lst (dN cs) ∧ cs.length ≤ most ∧ cs.Nodup ∧ ∀ c ∈ cs, c < many) := by
  unfold m_law_some
  simp -implicitDefEqProofs
  obtain ⟨v1, x1, a1, b1, c1⟩ := draw_call (env := [.io 0 b, .imm (.int many), .imm (.int most), .own (.lst []), .un, .un]) (i := 0) (a := mBin dAdd (lVar 2) (lFix (mC (.int 1)))) (many := most + 1) hb rfl (by simp -implicitDefEqProofs) (by omega)
  obtain ⟨P, hP⟩ := inv fun k e => ∃ (x : D) (cs : List Nat) (s t : Sl), e = [.io 0 x, .imm (.int many), .imm (.int most), .own (.lst (dN cs)), s, t] ∧ IsBox x ∧ cs.length ≤ k ∧ cs.Nodup ∧ ∀ c ∈ cs, c < many
  refine W_for (ds := rngD 0 v1) (e0 := [.io 0 x1, .imm (.int many), .imm (.int most), .own (.lst []), .un, .un]) (iR1_ok (n := v1) (by simp -implicitDefEqProofs [c1]) (by omega)) P (by rw [hP]; exact ⟨x1, [], .un, .un, rfl, b1, by simp -implicitDefEqProofs, by simp -implicitDefEqProofs, by simp -implicitDefEqProofs⟩) ?_ ?_
  · intro k d e hd h
    rw [hP] at h
    obtain ⟨x, cs, s, t, rfl, hx, hl, hn, hv⟩ := h
    simp -implicitDefEqProofs at hd
    obtain ⟨hk, rfl⟩ := hd
    obtain ⟨v2, x2, a2, b2, c2⟩ := draw_call (env := [.io 0 x, .imm (.int many), .imm (.int most), .own (.lst (dN cs)), .imm (.int k), t]) (i := 0) (a := mVar 1) (many := many) hx rfl rfl (by omega)
    have e3 : cs.length < sizeLine := szL (by omega)
    by_cases h2 : v2 ∈ cs
    · simp -implicitDefEqProofs [c2, h2]
      rw [hP]
      exact ⟨x2, cs, _, _, rfl, b2, by omega, hn, hv⟩
    · simp -implicitDefEqProofs [c2, h2, e3]
      rw [hP]
      refine ⟨x2, cs ++ [v2], .imm (.int k), .imm (.int v2), by simp -implicitDefEqProofs, b2, by simp -implicitDefEqProofs; omega, ?_, fun c hc => ?_⟩
      · rw [List.nodup_append]
        refine ⟨hn, by simp -implicitDefEqProofs, fun a ha b' hb' => ?_⟩
        simp -implicitDefEqProofs at hb'; subst hb'
        rintro rfl; exact h2 ha
      · simp -implicitDefEqProofs at hc
        rcases hc with hc | rfl
        · exact hv c hc
        · omega
  · intro e h
    rw [hP] at h
    obtain ⟨x, cs, s, t, rfl, hx, hl, hn, hv⟩ := h
    simp -implicitDefEqProofs at hl
    simp -implicitDefEqProofs
    exact ⟨hx, cs, rfl, by omega, hn, hv⟩
/-- what floor_of makes -/
def flD (ns : List (List Nat)) (ds : List Nat) (ss : List (List Nat)) : D := .obj "Floor" ["near", "doors", "stations", "places", "size", "depot"]
  [.lst (dNN ns), .lst (dN ds), .lst (dNN ss), .lst ((List.range ns.length).map fun i => .tup [.int 0, .int (i : Nat)]), .int ns.length, .int ns.length]
theorem lists_lc {env : En} {k j : Nat} (ns : List (List Nat)) (hn : ns.length ≤ 1000) (hkj : env[k]? = some (.imm (.lst (dNN ns)))) (hj : ∃ s, env[j]? = some s ∧ s.calm = true) :
    mLc [j] (iAny (mVar k)) (gN j) mYes (mBi dList (bCons (lVar j) bNil)) env = some (.lst (dNN ns), env) := by
  obtain ⟨s, hs, hc⟩ := hj
  have hlt : j < env.length := (List.getElem?_eq_some_iff.mp hs).1
  have hself : env.set j s = env := by
    obtain ⟨h, rfl⟩ := List.getElem?_eq_some_iff.mp hs
    exact List.set_getElem_self h
  obtain ⟨acc, e2, hlc, ⟨t2, rfl⟩, hl⟩ := lc_ok (vs := [j]) (mi := iAny (mVar k)) (gf := gN j) (mt := mYes) (me := mBi dList (bCons (lVar j) bNil)) (env := env) (e0 := env) (ds := dNN ns)
    (by simp -implicitDefEqProofs [hkj]) (by simp -implicitDefEqProofs [calmAt, hs, hc]) (by simp -implicitDefEqProofs; omega) (fun e => ∃ t, e = env.set j t) (fun n acc => acc = dNN (ns.take n)) ⟨s, hself.symm⟩ rfl (by
      rintro i d e acc hd ⟨t, rfl⟩ rfl
      simp -implicitDefEqProofs at hd
      obtain ⟨r, hr, rfl⟩ := hd
      refine ⟨env.set j (.imm (.lst (dN r))), true, env.set j (.imm (.lst (dN r))), by simp -implicitDefEqProofs [wipeE, hlt], rfl, fun _ => ⟨.lst (dN r), env.set j (.imm (.lst (dN r))), by simp -implicitDefEqProofs [hlt], ⟨_, rfl⟩, ?_⟩, by simp -implicitDefEqProofs⟩
      rw [List.take_succ, hr]; simp -implicitDefEqProofs)
  rw [hlc, hl]
  simp -implicitDefEqProofs [backE, wipeE, hs, hself]
theorem put_new {f : Str} {d : D} : ∀ {ks : List Str} {xs : List D}, f ∉ ks → ks.length = xs.length → putK1 f ks = ks ++ [f] ∧ putD1 f d ks xs = xs ++ [d]
  | [], [], _, _ => ⟨rfl, rfl⟩
  | k :: ks, x :: xs, h, hl => by
    have hk : ¬k = f := fun e => h (by simp -implicitDefEqProofs [e])
    have ih := put_new (f := f) (d := d) (ks := ks) (xs := xs) (fun e => h (by simp -implicitDefEqProofs [e])) (by simpa using hl)
    simp -implicitDefEqProofs [putK1, putD1, hk, ih]
theorem init_ok (ns ss : List (List Nat)) (ds : List Nat) (h1 : ns.length ≤ 30) (h2 : ss.length ≤ 8) : W m_Floor__init [.io 0 (.obj "Floor" [] []), .imm (.lst (dNN ns)), .imm (.lst (dN ds)), .imm (.lst (dNN ss)), .imm (.lst ((List.range ns.length).map fun i => .tup [.int 0, .int (i : Nat)])), .un]
    (RtIo 0 fun md d x => md = .imm ∧ d = .non ∧ x = flD ns ds ss) := by
  unfold m_Floor__init
  generalize hpl : (List.range ns.length).map (fun i => D.tup [.int 0, .int (i : Nat)]) = pl
  have l1 := fun (S : D) => lists_lc (env := [.io 0 S, .imm (.lst (dNN ns)), .imm (.lst (dN ds)), .imm (.lst (dNN ss)), .imm (.lst pl), .un]) (k := 1) (j := 5) ns (by omega) rfl ⟨.un, rfl, rfl⟩
  have l2 := fun (S : D) => lists_lc (env := [.io 0 S, .imm (.lst (dNN ns)), .imm (.lst (dN ds)), .imm (.lst (dNN ss)), .imm (.lst pl), .un]) (k := 3) (j := 5) ss (by omega) rfl ⟨.un, rfl, rfl⟩
  have wset : ∀ (f : Str) (e : ME) (S : D) (env : En) (Q : Fl → Prop) (x : D) (ks : List Str) (xs : List D), S = .obj "Floor" ks xs → e (.io 0 S :: env) = some (x, .io 0 S :: env) → f ∉ ks → ks.length = xs.length → ks.length < 1000 → Q (.nx (.io 0 (.obj "Floor" (ks ++ [f]) (xs ++ [x])) :: env)) → W (mSetF "Floor" f 0 e) (.io 0 S :: env) Q := by
    rintro f e S env Q x ks xs rfl h1 h2 h3 h4 h5
    refine ⟨_, ?_, h5⟩
    obtain ⟨p1, p2⟩ := put_new (d := x) h2 h3
    have h6 : xs.length < 1000 := by omega
    unfold mSetF
    simp -implicitDefEqProofs [h1, h4, h6, p1, p2]
  rw [W_seq]
  refine wset _ _ _ _ _ _ _ _ rfl (l1 _) (by decide +kernel) rfl (by decide) ?_
  rw [sqK_nx, W_seq]
  refine wset _ _ _ _ _ (.lst (dN ds)) _ _ rfl rfl (by decide +kernel) rfl (by decide) ?_
  rw [sqK_nx, W_seq]
  refine wset _ _ _ _ _ _ _ _ rfl (l2 _) (by decide +kernel) rfl (by decide) ?_
  rw [sqK_nx, W_seq]
  refine wset _ _ _ _ _ (.lst pl) _ _ rfl rfl (by decide +kernel) rfl (by decide) ?_
  rw [sqK_nx, W_seq]
  refine wset _ _ _ _ _ (.int (dNN ns).length) _ _ rfl rfl (by decide +kernel) rfl (by decide) ?_
  rw [sqK_nx]
  refine wset _ _ _ _ _ (.int (dNN ns).length) _ _ rfl rfl (by decide +kernel) rfl (by decide) ?_
  refine ⟨_, rfl, rfl, rfl, ?_⟩
  unfold flD
  rw [hpl]
  simp -implicitDefEqProofs
theorem call_raw {N : List Str} {mf : MS} {a : MG} {env e1 : En} {as : List Ag} {ss : List Sl} {R : Md → D → D → Prop} {i j : Nat} (h1 : a env = some (as, e1)) (h2 : iosOf as = [i]) (hb : i ∉ borsOf as) (hj : ioPlaces 0 as = [j]) (h4 : slotsOf e1 0 as = some ss)
    (h5 : W mf (ss ++ List.replicate (N.length - ss.length) .un) (RtIo j R)) : ∃ md d x, R md d x ∧ mCall N mf a env = some (md, d, putS e1 i x) := by
  have hap : apart as = true := by
    unfold apart; rw [h2]
    simp -implicitDefEqProofs only [Bool.and_eq_true, List.all_eq_true, decide_eq_true_eq]
    exact ⟨by simp -implicitDefEqProofs, fun k hk => by simp -implicitDefEqProofs; intro z; exact hb (by rw [← z]; exact hk)⟩
  obtain ⟨fl, h6, h7⟩ := h5
  have pre : ∀ md d e x, e[j]? = some (.io 0 x) → (fl = .nx e ∧ md = .imm ∧ d = .non ∨ fl = .ret md d e) → mCall N mf a env = some (md, d, putS e1 i x) := by
    intro md d e x hx hc
    unfold mCall
    rw [h1]
    simp -implicitDefEqProofs only [Option.bind_some]
    rw [if_pos hap, h4]
    simp -implicitDefEqProofs only [Option.bind_some]
    rw [h6, h2, hj]
    rcases hc with ⟨rfl, rfl, rfl⟩ | rfl
    · simp -implicitDefEqProofs only [Option.bind_some, backIo, hx]; rfl
    · simp -implicitDefEqProofs only [Option.bind_some, backIo, hx]; rfl
  cases fl with
  | nx e => obtain ⟨x, hx, hr⟩ := h7; exact ⟨_, _, x, hr, pre _ _ e x hx (.inl ⟨rfl, rfl, rfl⟩)⟩
  | ret md d e => obtain ⟨x, hx, hr⟩ := h7; exact ⟨_, _, x, hr, pre _ _ e x hx (.inr rfl)⟩
  | bk e => exact h7.elim
  | ct e => exact h7.elim
theorem make_ok {c : String} {N : List Str} {np : Nat} {mf : MS} {a : MG} {env e1 : En} {as : List Ag} {ss : List Sl} {R : D → Prop} (h1 : a env = some (as, e1)) (h2 : iosOf as = []) (hb : e1.length ∉ borsOf as) (hj : ioPlaces 1 as = []) (h3 : as.length + 1 = np) (h4 : slotsOf (e1 ++ [.own (.obj c [] [])]) 1 as = some ss)
    (h5 : W mf (.io 0 (.obj c [] []) :: ss ++ List.replicate (N.length - (ss.length + 1)) .un) (RtIo 0 fun md d x => md = .imm ∧ d = .non ∧ R x)) : ∃ x, R x ∧ mMake c N np mf a env = some (x, e1) := by
  have hio : iosOf (.io e1.length :: as) = [e1.length] := by
    show (Ag.io e1.length :: as).filterMap Ag.ioOf = _
    rw [List.filterMap_cons]
    show e1.length :: iosOf as = _
    rw [h2]
  obtain ⟨md, d, x, ⟨rfl, rfl, hr⟩, hc⟩ := call_raw (N := N) (mf := mf) (a := fun _ => some (.io e1.length :: as, e1 ++ [.own (.obj c [] [])])) (env := e1) (e1 := e1 ++ [.own (.obj c [] [])]) (as := .io e1.length :: as) (ss := .io 0 (.obj c [] []) :: ss) (i := e1.length) (j := 0) rfl hio
    (by
      have : borsOf (.io e1.length :: as) = borsOf as := by unfold borsOf; rw [List.filterMap_cons]
      rw [this]; exact hb)
    (by simp -implicitDefEqProofs [ioPlaces, hj]) (by simp -implicitDefEqProofs [h4]) (by simpa using h5)
  refine ⟨x, hr, ?_⟩
  unfold mMake
  rw [h1]
  simp -implicitDefEqProofs only [Option.bind_some]
  rw [if_pos h3, hc]
  simp -implicitDefEqProofs
theorem floor_ok (ns ss : List (List Nat)) (ds : List Nat) (h1 : ns.length ≤ 30) (h2 : ss.length ≤ 8) : W m_floor_of [.imm (.lst (dNN ns)), .imm (.lst (dN ds)), .imm (.lst (dNN ss)), .un] (Rt fun md d => d = flD ns ds ss) := by
  unfold m_floor_of
  rw [W_retF]
  obtain ⟨acc, e2, hlc, ⟨t2, rfl⟩, hl⟩ := lc_ok (vs := [3]) (mi := (iR1 (aCons (mBi dLen (bCons (lVar 0) bNil)) aNil))) (gf := gN 3) (mt := mYes) (me := (mTup (aCons (mC (.int 0)) (aCons (mVar 3) aNil)))) (env := [.imm (.lst (dNN ns)), .imm (.lst (dN ds)), .imm (.lst (dNN ss)), .un]) (e0 := [.imm (.lst (dNN ns)), .imm (.lst (dN ds)), .imm (.lst (dNN ss)), .un]) (ds := rngD 0 ns.length)
    (iR1_ok (by simp -implicitDefEqProofs) (by omega)) rfl (by simp -implicitDefEqProofs; omega) (fun e => ∃ t, e = [.imm (.lst (dNN ns)), .imm (.lst (dN ds)), .imm (.lst (dNN ss)), t]) (fun n acc => acc = (List.range n).map fun i => .tup [.int 0, .int (i : Nat)]) ⟨.un, rfl⟩ rfl (by
      rintro i d e acc hd ⟨t, rfl⟩ rfl
      simp -implicitDefEqProofs at hd
      obtain ⟨hi, rfl⟩ := hd
      refine ⟨[.imm (.lst (dNN ns)), .imm (.lst (dN ds)), .imm (.lst (dNN ss)), .imm (.int i)], true, [.imm (.lst (dNN ns)), .imm (.lst (dN ds)), .imm (.lst (dNN ss)), .imm (.int i)], by simp -implicitDefEqProofs [wipeE], rfl, fun _ => ⟨.tup [.int 0, .int i], _, by simp -implicitDefEqProofs; rfl, ⟨_, rfl⟩, ?_⟩, by simp -implicitDefEqProofs⟩
      rw [List.range_succ]; simp -implicitDefEqProofs)
  have hlc' : mLc [3] (iR1 (aCons (mBi dLen (bCons (lVar 0) bNil)) aNil)) (gN 3) mYes (mTup (aCons (mC (.int 0)) (aCons (mVar 3) aNil))) [.imm (.lst (dNN ns)), .imm (.lst (dN ds)), .imm (.lst (dNN ss)), .un] = some (.lst acc, [.imm (.lst (dNN ns)), .imm (.lst (dN ds)), .imm (.lst (dNN ss)), .un]) := hlc
  simp -implicitDefEqProofs at hl
  subst hl
  obtain ⟨x, rfl, hmk⟩ := make_ok (c := "Floor") (N := n_Floor__init) (np := 5) (mf := m_Floor__init) (a := cImm (mVar 0) (cBor 1 (cImm (mVar 2) (cImm (mLc [3] (iR1 (aCons (mBi dLen (bCons (lVar 0) bNil)) aNil)) (gN 3) mYes (mTup (aCons (mC (.int 0)) (aCons (mVar 3) aNil)))) cNil))))
    (env := [.imm (.lst (dNN ns)), .imm (.lst (dN ds)), .imm (.lst (dNN ss)), .un]) (e1 := [.imm (.lst (dNN ns)), .imm (.lst (dN ds)), .imm (.lst (dNN ss)), .un])
    (as := [.imm (.lst (dNN ns)), .bor 1, .imm (.lst (dNN ss)), .imm (.lst ((List.range ns.length).map fun i => .tup [.int 0, .int (i : Nat)]))]) (ss := [.imm (.lst (dNN ns)), .imm (.lst (dN ds)), .imm (.lst (dNN ss)), .imm (.lst ((List.range ns.length).map fun i => .tup [.int 0, .int (i : Nat)]))])
    (by simp -implicitDefEqProofs [hlc']) rfl (by simp -implicitDefEqProofs [borsOf]) rfl rfl rfl (init_ok ns ss ds h1 h2)
  rw [hmk, Gt_some]
  rfl
end Law
namespace Q
open PySem L2
/-! ## What a def answers, told by its slots alone -/
def ioAt (e : En) : List Nat → Nat → Option (List D)
  | [], _ => some []
  | j :: js, n => match e[j]? with
    | some (.io n' d) => if n' = n then (ioAt e js (n + 1)).map fun ds => d :: ds else none
    | _ => none
def putAll : List Nat → List D → En → En
  | i :: is, d :: ds, env => putAll is ds (putS env i d)
  | _, _, env => env
/-- the answer, with how it is handed out, and what the changed objects are behind -/
def resM (N : List Str) (mf : MS) (ss : List Sl) (js : List Nat) : Option (Md × D × List D) := (mf (ss ++ List.replicate (N.length - ss.length) .un)).bind fun fl => match fl with
  | .nx e => (ioAt e js 0).map fun ds => (.imm, .non, ds)
  | .ret md d e => (ioAt e js 0).map fun ds => (md, d, ds)
  | _ => none
def res (N : List Str) (mf : MS) (ss : List Sl) (js : List Nat) : Option (D × List D) := (resM N mf ss js).map fun r => r.2
def resF (N : List Str) (mf : MS) (ss : List Sl) (js : List Nat) : Option (D × List D) := (resM N mf ss js).bind fun r => match r.1 with
  | .new => some r.2
  | .imm => none
theorem backIo_eq (cenv : En) : ∀ (is js : List Nat) (n : Nat) (env : En), is.length = js.length → backIo cenv n is js env = (ioAt cenv js n).map fun ds => putAll is ds env
  | [], [], n, env, _ => rfl
  | i :: is, [], n, env, h => by cases h
  | [], j :: js, n, env, h => by cases h
  | i :: is, j :: js, n, env, h => by
    unfold backIo ioAt
    cases hj : cenv[j]? with
    | none => rfl
    | some s =>
      cases s with
      | io n' d =>
        by_cases hn : n' = n
        · simp only [hn, if_true]
          rw [backIo_eq cenv is js (n + 1) _ (by simpa using h)]
          cases ioAt cenv js (n + 1) <;> rfl
        · simp only [hn, if_false]; rfl
      | _ => rfl
theorem ios_len : ∀ (as : List Ag) (n : Nat), (iosOf as).length = (ioPlaces n as).length
  | [], n => rfl
  | a :: as, n => by
    have := ios_len as (n + 1)
    unfold ioPlaces
    cases a with
    | imm d => exact this
    | bor i => exact this
    | io i => show (iosOf as).length + 1 = (ioPlaces (n + 1) as).length + 1; rw [this]
theorem mCall_res (N : List Str) (mf : MS) (a : MG) (env : En) : mCall N mf a env = (a env).bind fun p => if apart p.1 = true then (slotsOf p.2 0 p.1).bind fun ss => (resM N mf ss (ioPlaces 0 p.1)).map fun r => (r.1, r.2.1, putAll (iosOf p.1) r.2.2 p.2) else none := by
  unfold mCall resM
  cases ha : a env with
  | none => rfl
  | some p =>
    simp only [Option.bind_some]
    by_cases h : apart p.1 = true
    · rw [if_pos h, if_pos h]
      cases hs : slotsOf p.2 0 p.1 with
      | none => rfl
      | some ss =>
        simp only [Option.bind_some]
        cases hf : mf (ss ++ List.replicate (N.length - ss.length) .un) with
        | none => rfl
        | some fl =>
          cases fl with
          | nx e => simp only [Option.bind_some]; rw [backIo_eq _ _ _ _ _ (ios_len _ _)]; cases ioAt e (ioPlaces 0 p.1) 0 <;> rfl
          | ret md d e => simp only [Option.bind_some]; rw [backIo_eq _ _ _ _ _ (ios_len _ _)]; cases ioAt e (ioPlaces 0 p.1) 0 <;> rfl
          | bk e => rfl
          | ct e => rfl
    · rw [if_neg h, if_neg h]
theorem V_eq (N : List Str) (np : Nat) (mf : MS) (a : MG) (env : En) : mCallV N np mf a env = (a env).bind fun p => if p.1.length = np ∧ apart p.1 = true then (slotsOf p.2 0 p.1).bind fun ss => (res N mf ss (ioPlaces 0 p.1)).map fun r => (r.1, putAll (iosOf p.1) r.2 p.2) else none := by
  unfold mCallV
  rw [mCall_res]
  unfold res
  cases ha : a env with
  | none => simp
  | some p =>
    simp only [Option.bind_some, Option.map_some, Option.some.injEq]
    by_cases h1 : p.1.length = np
    · by_cases h2 : apart p.1 = true
      · simp only [h1, h2, if_true, and_self]
        cases hs : slotsOf p.2 0 p.1 with
        | none => rfl
        | some ss => simp only [Option.bind_some]; cases resM N mf ss (ioPlaces 0 p.1) <;> rfl
      · simp [h1, h2]
    · simp [h1]
theorem F_eq (N : List Str) (np : Nat) (mf : MS) (a : MG) (env : En) : mCallF N np mf a env = (a env).bind fun p => if p.1.length = np ∧ apart p.1 = true then (slotsOf p.2 0 p.1).bind fun ss => (resF N mf ss (ioPlaces 0 p.1)).map fun r => (r.1, putAll (iosOf p.1) r.2 p.2) else none := by
  unfold mCallF
  rw [mCall_res]
  unfold resF
  cases ha : a env with
  | none => simp
  | some p =>
    simp only [Option.bind_some, Option.map_some, Option.some.injEq]
    by_cases h1 : p.1.length = np
    · by_cases h2 : apart p.1 = true
      · simp only [h1, h2, if_true, and_self]
        cases hs : slotsOf p.2 0 p.1 with
        | none => rfl
        | some ss =>
          simp only [Option.bind_some]
          cases resM N mf ss (ioPlaces 0 p.1) with
          | none => rfl
          | some r => obtain ⟨md, d, ds⟩ := r; cases md <;> rfl
      · simp [h1, h2]
    · simp [h1]
/-! ### from W to the answer -/
def RtA (js : List Nat) (R : Md → D → List D → Prop) : Fl → Prop
  | .nx e => Gt (ioAt e js 0) fun ds => R .imm .non ds
  | .ret md d e => Gt (ioAt e js 0) fun ds => R md d ds
  | _ => False
@[simp] theorem RtA_nx (js : List Nat) (R : Md → D → List D → Prop) (e : En) : RtA js R (.nx e) ↔ Gt (ioAt e js 0) fun ds => R .imm .non ds := Iff.rfl
@[simp] theorem RtA_ret (js : List Nat) (R : Md → D → List D → Prop) (md : Md) (d : D) (e : En) : RtA js R (.ret md d e) ↔ Gt (ioAt e js 0) fun ds => R md d ds := Iff.rfl
@[simp] theorem ioAt_nil (e : En) (n : Nat) : ioAt e [] n = some [] := rfl
@[simp] theorem ioAt_cons (e : En) (j n : Nat) (js : List Nat) : ioAt e (j :: js) n = (e[j]?).bind fun s => match s with
    | .io n' d => if n' = n then (ioAt e js (n + 1)).map fun ds => d :: ds else none
    | _ => none := by
  rw [ioAt]
  cases e[j]? with
  | none => rfl
  | some s => cases s <;> rfl
theorem resM_of {N : List Str} {mf : MS} {ss : List Sl} {js : List Nat} {R : Md → D → List D → Prop} (h : W mf (ss ++ List.replicate (N.length - ss.length) .un) (RtA js R)) : ∃ md d ds, R md d ds ∧ resM N mf ss js = some (md, d, ds) := by
  obtain ⟨fl, h1, h2⟩ := h
  unfold resM
  rw [h1]
  cases fl with
  | nx e => obtain ⟨ds, q, r⟩ := h2; exact ⟨_, _, ds, r, by simp only [Option.bind_some]; rw [q]; rfl⟩
  | ret md d e => obtain ⟨ds, q, r⟩ := h2; exact ⟨_, _, ds, r, by simp only [Option.bind_some]; rw [q]; rfl⟩
  | bk e => exact h2.elim
  | ct e => exact h2.elim
theorem res_of {N : List Str} {mf : MS} {ss : List Sl} {js : List Nat} {R : D → List D → Prop} (h : W mf (ss ++ List.replicate (N.length - ss.length) .un) (RtA js fun _ d ds => R d ds)) : ∃ d ds, R d ds ∧ res N mf ss js = some (d, ds) := by
  obtain ⟨md, d, ds, r, q⟩ := resM_of h
  exact ⟨d, ds, r, by unfold res; rw [q]; rfl⟩
theorem resF_of {N : List Str} {mf : MS} {ss : List Sl} {js : List Nat} {R : D → List D → Prop} (h : W mf (ss ++ List.replicate (N.length - ss.length) .un) (RtA js fun md d ds => md = .new ∧ R d ds)) : ∃ d ds, R d ds ∧ resF N mf ss js = some (d, ds) := by
  obtain ⟨md, d, ds, ⟨rfl, r⟩, q⟩ := resM_of h
  exact ⟨d, ds, r, by unfold resF; rw [q]; rfl⟩
theorem res_eq {N : List Str} {mf : MS} {ss : List Sl} {js : List Nat} {x : D} {xs : List D} (h : W mf (ss ++ List.replicate (N.length - ss.length) .un) (RtA js fun _ d ds => d = x ∧ ds = xs)) : res N mf ss js = some (x, xs) := by
  obtain ⟨d, ds, ⟨rfl, rfl⟩, q⟩ := res_of h
  exact q
theorem resF_eq {N : List Str} {mf : MS} {ss : List Sl} {js : List Nat} {x : D} {xs : List D} (h : W mf (ss ++ List.replicate (N.length - ss.length) .un) (RtA js fun md d ds => md = .new ∧ d = x ∧ ds = xs)) : resF N mf ss js = some (x, xs) := by
  obtain ⟨d, ds, ⟨rfl, rfl⟩, q⟩ := resF_of h
  exact q
/-! ### the arguments -/
@[simp] theorem apart_nil : apart [] = true := rfl
@[simp] theorem ios_nil : iosOf [] = [] := rfl
@[simp] theorem ios_imm (d : D) (as : List Ag) : iosOf (.imm d :: as) = iosOf as := rfl
@[simp] theorem ios_bor (i : Nat) (as : List Ag) : iosOf (.bor i :: as) = iosOf as := rfl
@[simp] theorem ios_io (i : Nat) (as : List Ag) : iosOf (.io i :: as) = i :: iosOf as := rfl
@[simp] theorem bors_nil : borsOf [] = [] := rfl
@[simp] theorem bors_imm (d : D) (as : List Ag) : borsOf (.imm d :: as) = borsOf as := rfl
@[simp] theorem bors_bor (i : Nat) (as : List Ag) : borsOf (.bor i :: as) = i :: borsOf as := rfl
@[simp] theorem bors_io (i : Nat) (as : List Ag) : borsOf (.io i :: as) = borsOf as := rfl
@[simp] theorem iop_nil (n : Nat) : ioPlaces n [] = [] := rfl
@[simp] theorem iop_imm (n : Nat) (d : D) (as : List Ag) : ioPlaces n (.imm d :: as) = ioPlaces (n + 1) as := rfl
@[simp] theorem iop_bor (n i : Nat) (as : List Ag) : ioPlaces n (.bor i :: as) = ioPlaces (n + 1) as := rfl
@[simp] theorem iop_io (n i : Nat) (as : List Ag) : ioPlaces n (.io i :: as) = n :: ioPlaces (n + 1) as := rfl
@[simp] theorem apart_imm (d : D) (as : List Ag) : apart (.imm d :: as) = apart as := rfl
@[simp] theorem apart_bor (i : Nat) (as : List Ag) : apart (.bor i :: as) = (decide (i ∉ iosOf as) && apart as) := by
  unfold apart
  rw [Bool.eq_iff_iff]
  simp only [ios_bor, bors_bor, List.all_cons, Bool.and_eq_true]
  constructor
  · rintro ⟨h1, h2, h3⟩; exact ⟨h2, h1, h3⟩
  · rintro ⟨h2, h1, h3⟩; exact ⟨h1, h2, h3⟩
@[simp] theorem apart_io (i : Nat) (as : List Ag) : apart (.io i :: as) = (decide (i ∉ iosOf as) && (decide (i ∉ borsOf as) && apart as)) := by
  unfold apart
  simp only [ios_io, bors_io]
  rw [Bool.eq_iff_iff]
  simp only [Bool.and_eq_true, decide_eq_true_eq, List.nodup_cons, List.all_eq_true, List.mem_cons, not_or]
  constructor
  · rintro ⟨⟨h1, h2⟩, h3⟩
    exact ⟨h1, fun z => (h3 i z).1 rfl, h2, fun k hk => (h3 k hk).2⟩
  · rintro ⟨h1, h2, h3, h4⟩
    exact ⟨⟨h1, h3⟩, fun k hk => ⟨fun z => h2 (z ▸ hk), h4 k hk⟩⟩
@[simp] theorem putAll_nil (env : En) (ds : List D) : putAll [] ds env = env := by cases ds <;> rfl
@[simp] theorem putAll_cons (i : Nat) (is : List Nat) (d : D) (ds : List D) (env : En) : putAll (i :: is) (d :: ds) env = putAll is ds (putS env i d) := rfl
@[simp] theorem ap_Neg (a : ME) (env : En) : mNeg a env = (a env).bind fun p => match p.1 with
  | .int i => some (.int (-i), p.2)
  | _ => none := rfl
/-! ### more statements -/
theorem ex_bind {α : Type} {o : Option α} {f : α → Option Fl} {Q : Fl → Prop} : (∃ fl, o.bind f = some fl ∧ Q fl) ↔ Gt o fun a => ∃ fl, f a = some fl ∧ Q fl := by
  cases o <;> simp [Gt]
theorem ex_ite {c : Prop} [Decidable c] {x : Fl} {Q : Fl → Prop} : (∃ fl, (if c then some x else none) = some fl ∧ Q fl) ↔ c ∧ Q x := by
  by_cases h : c <;> simp [h]
@[simp] theorem W_setD {i : Nat} {x y : ME} {env : En} {Q : Fl → Prop} : W (mSetD i x y) env Q ↔ Gt (x env) fun p => Gt (ownD p.2 i) fun _ => Gt (y p.2) fun q => Gt (ownD q.2 i) fun kx => Gt (q.1.key?) fun k => kx.2.length < sizeLine ∧ Q (.nx (putS q.2 i (.dic (putKK k kx.1) (putKD k p.1 kx.1 kx.2)))) := by
  simp only [W, mSetD, ex_bind, ex_ite]
@[simp] theorem W_setN {i : Nat} {x y : ME} {env : En} {Q : Fl → Prop} : W (mSetN i x y) env Q ↔ Gt (x env) fun p => Gt (ownN p.2 i) fun _ => Gt (y p.2) fun q => Gt (ownN q.2 i) fun kx => Gt (numsD q.1) fun k => kx.2.length < sizeLine ∧ Q (.nx (putS q.2 i (.dcn (putN k kx.1) (putX k p.1 kx.1 kx.2)))) := by
  simp only [W, mSetN, ex_bind, ex_ite]
@[simp] theorem ap_ownD (env : En) (i : Nat) : ownD env i = (env[i]?).bind fun s => (s.own?).bind fun d => match d with
  | .dic ks xs => some (ks, xs)
  | _ => none := rfl
@[simp] theorem ap_ownN (env : En) (i : Nat) : ownN env i = (env[i]?).bind fun s => (s.own?).bind fun d => match d with
  | .dcn ks xs => some (ks, xs)
  | _ => none := rfl
@[simp] theorem key_int (i : Int) : D.key? (.int i) = some (.inl i) := rfl
/-! ### texts that data shows -/
theorem repr_ok {x : D} {p : PyData} (h : toP x = some p) (h2 : PyOk p = true) : dRepr [x] = some (.str p.shown) := by
  unfold dRepr
  simp only [h, Option.bind_some, h2, if_true]
end Q
namespace Law
open PySem L2 Q
theorem atI_last {α : Type} (xs : List α) (h : xs ≠ []) : ∃ x, xs.getLast? = some x ∧ atI xs (-1) = some x := by
  have hl : 0 < xs.length := List.length_pos_iff.mpr h
  refine ⟨xs.getLast h, List.getLast?_eq_getLast h, ?_⟩
  unfold atI ixN
  rw [if_neg (by omega), if_pos (by omega)]
  have e : (-1 + (xs.length : Int)).toNat = xs.length - 1 := by omega
  simp only [Option.bind_some]
  first
    | rw [e, List.getLast_eq_getElem, List.getElem?_eq_getElem]
    | (show xs[((-1 : Int) + xs.length).toNat]? = _; rw [e, List.getLast_eq_getElem, List.getElem?_eq_getElem])
theorem dN_app (a : List Nat) (b : Nat) : dN a ++ [D.int (b : Nat)] = dN (a ++ [b]) := by simp
theorem dNN_app (a : List (List Nat)) (b : List Nat) : dNN a ++ [D.lst (dN b)] = dNN (a ++ [b]) := by simp
end Law
namespace Law
open PySem L2 Q
/-! ### the tables of cells behind -/
abbrev Tb := List (Nat × Option Nat)
def putT (T : Tb) (c : Nat) (b : Option Nat) : Tb := if T.any (fun p => p.1 == c) then T.map (fun p => if p.1 == c then (p.1, b) else p) else T ++ [(c, b)]
def tabD (f : Option Nat → D) (T : Tb) : D := .dic (T.map fun p => (.inl (p.1 : Nat) : Key)) (T.map fun p => f p.2)
theorem hasK_T (c : Nat) : ∀ T : Tb, hasK (.inl (c : Nat)) (T.map fun p => (.inl ((p.1 : Nat) : Int) : Key)) = T.any (fun p => p.1 == c)
  | [] => rfl
  | p :: T => by
    simp only [List.map_cons, hasK, List.any_cons, hasK_T c T]
    congr 1
    by_cases h : p.1 = c
    · simp [h]
    · have h2 : ¬ ((p.1 : Nat) : Int) = (c : Nat) := by omega
      simp [h, h2]
theorem repl_T (f : Option Nat → D) (c : Nat) (b : Option Nat) : ∀ T : Tb, repl (.inl (c : Nat)) (f b) (T.map fun p => (.inl ((p.1 : Nat) : Int) : Key)) (T.map fun p => f p.2) = (T.map (fun p => if p.1 == c then (p.1, b) else p)).map fun p => f p.2
  | [] => rfl
  | p :: T => by
    simp only [List.map_cons, repl, repl_T f c b T]
    congr 1
    by_cases h : p.1 = c
    · simp [h]
    · have h2 : ¬ ((p.1 : Nat) : Int) = (c : Nat) := by omega
      simp [h, h2]
theorem keys_T (c : Nat) (b : Option Nat) (T : Tb) : (T.map (fun p => if p.1 == c then (p.1, b) else p)).map (fun p => (.inl ((p.1 : Nat) : Int) : Key)) = T.map fun p => (.inl ((p.1 : Nat) : Int) : Key) := by
  rw [List.map_map]
  refine List.map_congr_left fun p _ => ?_
  simp only [Function.comp]
  split <;> rfl
theorem putTab (f : Option Nat → D) (T : Tb) (c : Nat) (b : Option Nat) : D.dic (putKK (.inl (c : Nat)) (T.map fun p => (.inl ((p.1 : Nat) : Int) : Key))) (putKD (.inl (c : Nat)) (f b) (T.map fun p => (.inl ((p.1 : Nat) : Int) : Key)) (T.map fun p => f p.2)) = tabD f (putT T c b) := by
  unfold putKK putKD putT tabD
  rw [hasK_T]
  by_cases h : T.any (fun p => p.1 == c) = true
  · simp only [h, if_true]
    rw [repl_T, keys_T]
  · simp only [h, if_false]
    simp
def lookT (T : Tb) (c : Nat) : Option (Option Nat) := (T.find? fun p => p.1 == c).map (·.2)
theorem look_T (f : Option Nat → D) (c : Nat) : ∀ T : Tb, lookD (T.map fun p => (.inl ((p.1 : Nat) : Int) : Key)) (T.map fun p => f p.2) (.inl (c : Nat)) = (lookT T c).map f
  | [] => rfl
  | p :: T => by
    have ih := look_T f c T
    unfold lookD lookT at *
    simp only [List.map_cons, List.zip_cons_cons, List.find?_cons]
    by_cases h : p.1 = c
    · simp [h]
    · have e1 : decide ((Sum.inl ((p.1 : Nat) : Int) : Key) = .inl (c : Nat)) = false := decide_eq_false fun z => h (by injection z with z; omega)
      have e2 : (p.1 == c) = false := beq_eq_false_iff_ne.mpr h
      rw [e1, e2]
      exact ih
theorem inD_T (neg : Bool) (f : Option Nat → D) (c : Nat) (T : Tb) : dInD neg (.int (c : Nat)) (tabD f T) = some (.bl (if neg then !(lookT T c).isSome else (lookT T c).isSome)) := by
  unfold tabD dInD
  simp only [D.key?, Option.map_some, look_T, Option.isSome_map]
theorem get_T (f : Option Nat → D) (c : Nat) (T : Tb) : dGet (tabD f T) (.int (c : Nat)) = (lookT T c).map f := by
  unfold tabD dGet
  simp only [D.key?, Option.bind_some, look_T]
theorem putT_len (T : Tb) (c : Nat) (b : Option Nat) : (putT T c b).length ≤ T.length + 1 := by
  unfold putT
  split <;> simp
theorem putT_lt {n : Nat} {T : Tb} {c : Nat} {b : Option Nat} (hT : ∀ p ∈ T, p.1 < n ∧ ∀ x, p.2 = some x → x < n) (hc : c < n) (hb : ∀ x, b = some x → x < n) : ∀ p ∈ putT T c b, p.1 < n ∧ ∀ x, p.2 = some x → x < n := by
  unfold putT
  intro p hp
  split at hp
  · obtain ⟨q, hq, rfl⟩ := List.mem_map.mp hp
    split
    · exact ⟨(hT q hq).1, hb⟩
    · exact hT q hq
  · rcases List.mem_append.mp hp with hp | hp
    · exact hT p hp
    · obtain rfl := List.mem_singleton.mp hp
      exact ⟨hc, hb⟩
def stT (s : Tb × Option Nat) (c : Nat) : Tb × Option Nat := (putT s.1 c s.2, some c)
def ahW (w : List Nat) (T : Tb) : Tb × Option Nat := w.foldl stT (T, none)
def ahT (ws : List (List Nat)) : Tb := ws.foldl (fun T w => (ahW w T).1) []
theorem ahW_succ (w : List Nat) (T : Tb) {j c : Nat} (h : w[j]? = some c) : ahW (w.take (j + 1)) T = stT (ahW (w.take j) T) c := by
  unfold ahW
  rw [List.take_add_one, h, List.foldl_append]; rfl
theorem ahT_succ (ws : List (List Nat)) {j : Nat} {w : List Nat} (h : ws[j]? = some w) : ahT (ws.take (j + 1)) = (ahW w (ahT (ws.take j))).1 := by
  unfold ahT
  rw [List.take_add_one, h, List.foldl_append]; rfl
theorem ahW_before (w : List Nat) (T : Tb) (j : Nat) (h : j < w.length) : (ahW (w.take (j + 1)) T).2 = w[j]? := by
  have e := List.getElem?_eq_getElem h
  rw [ahW_succ w T e, e]; rfl
theorem ahW_len (w : List Nat) (T : Tb) : (ahW w T).1.length ≤ T.length + w.length := by
  unfold ahW
  suffices ∀ (b : Option Nat) (T : Tb), (w.foldl stT (T, b)).1.length ≤ T.length + w.length from this none T
  induction w with
  | nil => intro b T; simp
  | cons c w ih =>
    intro b T
    have := ih (some c) (putT T c b)
    have h2 := putT_len T c b
    simp only [List.foldl_cons, List.length_cons, stT]
    omega
theorem ahW_lt {n : Nat} (w : List Nat) (T : Tb) (hw : ∀ c ∈ w, c < n) (hT : ∀ p ∈ T, p.1 < n ∧ ∀ x, p.2 = some x → x < n) : ∀ p ∈ (ahW w T).1, p.1 < n ∧ ∀ x, p.2 = some x → x < n := by
  unfold ahW
  suffices ∀ (w : List Nat) (b : Option Nat) (T : Tb), (∀ c ∈ w, c < n) → (∀ x, b = some x → x < n) → (∀ p ∈ T, p.1 < n ∧ ∀ x, p.2 = some x → x < n) → ∀ p ∈ (w.foldl stT (T, b)).1, p.1 < n ∧ ∀ x, p.2 = some x → x < n from this w none T hw (by simp) hT
  intro w
  induction w with
  | nil => intro b T _ _ hT; exact hT
  | cons c w ih =>
    intro b T hw hb hT
    exact ih (some c) (putT T c b) (fun x hx => hw x (List.mem_cons_of_mem _ hx)) (fun x hx => by cases hx; exact hw c List.mem_cons_self) (putT_lt hT (hw c List.mem_cons_self) hb)
def fN : Option Nat → D
  | none => .non
  | some x => .int (x : Nat)
def fL : Option Nat → D
  | none => .int (-1)
  | some x => .int (x : Nat)
theorem tabD_len (f : Option Nat → D) (T : Tb) : (T.map fun p => f p.2).length = T.length := by simp
end Law
namespace Law
open PySem L2 Q
theorem W_putT {f : Option Nat → D} {i : Nat} {x y : ME} {env env1 env2 : En} {Q : Fl → Prop} {T : Tb} {c : Nat} {b : Option Nat} (h1 : x env = some (f b, env1)) (h2 : env1[i]? = some (.own (tabD f T))) (h3 : y env1 = some (.int (c : Nat), env2)) (h4 : env2[i]? = some (.own (tabD f T))) (hz : T.length < 10000)
    (hq : Q (.nx (env2.set i (.own (tabD f (putT T c b)))))) : W (mSetD i x y) env Q := by
  rw [W_setD, h1, Gt_some]
  have e1 : ownD env1 i = some (T.map fun p => (.inl ((p.1 : Nat) : Int) : Key), T.map fun p => f p.2) := by simp [h2, tabD]
  have e2 : ownD env2 i = some (T.map fun p => (.inl ((p.1 : Nat) : Int) : Key), T.map fun p => f p.2) := by simp [h4, tabD]
  rw [e1, Gt_some, h3, Gt_some, e2, Gt_some, key_int, Gt_some]
  refine ⟨by rw [List.length_map]; exact szL hz, ?_⟩
  have e3 : putS env2 i (.dic (putKK (.inl (c : Nat)) (T.map fun p => (.inl ((p.1 : Nat) : Int) : Key))) (putKD (.inl (c : Nat)) (f b) (T.map fun p => (.inl ((p.1 : Nat) : Int) : Key)) (T.map fun p => f p.2))) = env2.set i (.own (tabD f (putT T c b))) := by
    unfold putS; rw [h4, putTab]; rfl
  rw [e3]
  exact hq
theorem ahead_ok (ws : List (List Nat)) (hl : ws.length ≤ 10) (hw : ∀ w ∈ ws, w.length ≤ 31) : res n_ahead_table m_ahead_table [.imm (.lst (dNN ws))] [] = some (tabD fN (ahT ws), []) := by
  refine res_eq ?_
  unfold m_ahead_table
  simp -implicitDefEqProofs [mDic0]
  obtain ⟨P, hP⟩ := inv fun k e => ∃ (s t u : Sl), e = [.imm (.lst (dNN ws)), .own (tabD fN (ahT (ws.take k))), s, t, u] ∧ (ahT (ws.take k)).length ≤ 31 * k
  refine W_for (ds := dNN ws) (e0 := [.imm (.lst (dNN ws)), .own (.dic [] []), .un, .un, .un]) (by simp -implicitDefEqProofs) P (by rw [hP]; exact ⟨.un, .un, .un, rfl, by simp [ahT]⟩) ?_ ?_
  · intro k d e hd h
    rw [hP] at h
    obtain ⟨s, t, u, rfl, h1⟩ := h
    rw [List.getElem?_map] at hd
    obtain ⟨w, ho, rfl⟩ := Option.map_eq_some_iff.mp hd
    have hk : k < ws.length := (List.getElem?_eq_some_iff.mp ho).1
    have hwl := hw w (List.mem_of_getElem? ho)
    obtain ⟨T, hT⟩ : ∃ T, T = ahT (ws.take k) := ⟨_, rfl⟩
    rw [← hT] at h1 ⊢
    refine ⟨[.imm (.lst (dNN ws)), .own (tabD fN T), .imm (.lst (dN w)), t, u], by simp -implicitDefEqProofs, ?_⟩
    simp -implicitDefEqProofs
    obtain ⟨P2, hP2⟩ := inv fun j e => ∃ (u : Sl), e = [.imm (.lst (dNN ws)), .own (tabD fN (ahW (w.take j) T).1), .imm (.lst (dN w)), .imm (fN (ahW (w.take j) T).2), u]
    refine W_for (ds := dN w) (e0 := [.imm (.lst (dNN ws)), .own (tabD fN T), .imm (.lst (dN w)), .imm .non, u]) (by simp -implicitDefEqProofs) P2 (by rw [hP2]; exact ⟨u, rfl⟩) ?_ ?_
    · intro j d e hd h
      rw [hP2] at h
      obtain ⟨u, rfl⟩ := h
      rw [List.getElem?_map] at hd
      obtain ⟨c, hc, rfl⟩ := Option.map_eq_some_iff.mp hd
      have hj : j < w.length := (List.getElem?_eq_some_iff.mp hc).1
      have hlen := ahW_len (w.take j) T
      rw [List.length_take] at hlen
      have hsucc := ahW_succ w T hc
      obtain ⟨S, hS⟩ : ∃ S, S = ahW (w.take j) T := ⟨_, rfl⟩
      rw [← hS] at hlen hsucc ⊢
      refine ⟨[.imm (.lst (dNN ws)), .own (tabD fN S.1), .imm (.lst (dN w)), .imm (fN S.2), .imm (.int (c : Nat))], by simp -implicitDefEqProofs, ?_⟩
      rw [W_seq]
      refine W_putT (f := fN) (T := S.1) (c := c) (b := S.2) (env1 := [.imm (.lst (dNN ws)), .own (tabD fN S.1), .imm (.lst (dN w)), .imm (fN S.2), .imm (.int (c : Nat))]) (env2 := [.imm (.lst (dNN ws)), .own (tabD fN S.1), .imm (.lst (dN w)), .imm (fN S.2), .imm (.int (c : Nat))]) (by simp -implicitDefEqProofs) rfl (by simp -implicitDefEqProofs) rfl (by omega) ?_
      simp -implicitDefEqProofs
      rw [hP2]
      dsimp only
      rw [hsucc]
      exact ⟨_, rfl⟩
    · intro e h
      rw [hP2] at h
      obtain ⟨u, rfl⟩ := h
      rw [List.length_map, List.take_length]
      simp -implicitDefEqProofs
      rw [hP]
      dsimp only
      rw [ahT_succ ws ho, ← hT]
      have := ahW_len w T
      exact ⟨_, _, _, rfl, by omega⟩
  · intro e h
    rw [hP] at h
    obtain ⟨s, t, u, rfl, h1⟩ := h
    rw [List.length_map, List.take_length]
    simp -implicitDefEqProofs
end Law
namespace Law
open PySem L2 Q
/-! ### spots -/
abbrev Spt := Nat × Bool
abbrev spD (s : Spt) : D := .tup [.int (s.1 : Nat), .bl s.2]
abbrev dSp (xs : List Spt) : List D := xs.map spD
def opens (row closed : List Nat) : List Spt := (row.filter fun o => !decide (o ∈ closed)).map fun o => (o, false)
def nextS (near : List (List Nat)) (closed : List Nat) (T : Tb) (s : Spt) : List Spt :=
  if s.2 then opens (near[s.1]?.getD []) closed ++ (if (lookT T s.1).isSome then [(s.1, false)] else [])
  else match lookT T s.1 with
    | none => [(s.1, true)]
    | some none => []
    | some (some b) => [(b, true)]
theorem opens_lc {env : En} {k j : Nat} {mi : MI} (row closed : List Nat) (hn : row.length ≤ 1000) (hi : mi env = some (dN row, env)) (hk : env[k]? = some (.imm (.lst (dN closed)))) (hkj : j ≠ k) (hj : ∃ s, env[j]? = some s ∧ s.calm = true) :
    mLc [j] mi (gN j) (mTest (mBin (dIn true) (lVar j) (lVar k))) (mTup (aCons (mVar j) (aCons (mC (.bl false)) aNil))) env = some (.lst (dSp (opens row closed)), env) := by
  obtain ⟨s, hs, hc⟩ := hj
  have hlt : j < env.length := (List.getElem?_eq_some_iff.mp hs).1
  have hself : env.set j s = env := by
    obtain ⟨h, rfl⟩ := List.getElem?_eq_some_iff.mp hs
    exact List.set_getElem_self h
  obtain ⟨acc, e2, hlc, ⟨t2, rfl⟩, hl⟩ := lc_ok (vs := [j]) (mi := mi) (gf := gN j) (mt := mTest (mBin (dIn true) (lVar j) (lVar k))) (me := mTup (aCons (mVar j) (aCons (mC (.bl false)) aNil))) (env := env) (e0 := env) (ds := dN row)
    hi (by simp -implicitDefEqProofs [calmAt, hs, hc]) (by simp -implicitDefEqProofs; omega) (fun e => ∃ t, e = env.set j t) (fun n acc => acc = dSp (opens (row.take n) closed)) ⟨s, hself.symm⟩ rfl (by
      rintro i d e acc hd ⟨t, rfl⟩ rfl
      simp -implicitDefEqProofs at hd
      obtain ⟨r, hr, rfl⟩ := hd
      have hk2 : (env.set j (.imm (.int (r : Nat))))[k]? = some (.imm (.lst (dN closed))) := by rw [List.getElem?_set_ne hkj, hk]
      refine ⟨env.set j (.imm (.int (r : Nat))), !decide (r ∈ closed), env.set j (.imm (.int (r : Nat))), by simp -implicitDefEqProofs [wipeE, hlt], by simp -implicitDefEqProofs [hlt, hk2], fun hb => ⟨spD (r, false), env.set j (.imm (.int (r : Nat))), by simp -implicitDefEqProofs [hlt], ⟨_, rfl⟩, ?_⟩, fun hb => ⟨⟨_, rfl⟩, ?_⟩⟩
      · rw [List.take_succ, hr]; unfold opens; simp -implicitDefEqProofs at hb; simp -implicitDefEqProofs [hb]
      · rw [List.take_succ, hr]; unfold opens; simp -implicitDefEqProofs at hb; simp -implicitDefEqProofs [hb])
  rw [hlc, hl]
  simp -implicitDefEqProofs [backE, wipeE, hs, hself]
@[simp] theorem W_asgG {gf : D → En → Option En} {a : ME} {env : En} {Q : Fl → Prop} : W (mAsgG gf a) env Q ↔ Gt (a env) fun p => Gt (gf p.1 p.2) fun e => Q (.nx e) := by
  unfold W mAsgG Gt
  constructor
  · rintro ⟨fl, h, q⟩
    obtain ⟨p, h1, h2⟩ := Option.bind_eq_some_iff.mp h
    obtain ⟨e, h3, rfl⟩ := Option.map_eq_some_iff.mp h2
    exact ⟨p, h1, e, h3, q⟩
  · rintro ⟨p, h1, e, h3, q⟩
    exact ⟨.nx e, by rw [h1]; simp [h3], q⟩
@[simp] theorem ap_gT (n : Nat) (r : List D → En → Option En) (xs : List D) (env : En) : gT n r (.tup xs) env = if xs.length = n then r xs env else none := rfl
@[simp] theorem ap_gsNil (env : En) : gsNil [] env = some env := rfl
@[simp] theorem ap_gsCons (f : D → En → Option En) (r : List D → En → Option En) (d : D) (ds : List D) (env : En) : gsCons f r (d :: ds) env = (f d env).bind fun e => r ds e := rfl
@[simp] theorem isNon_fN_some (b : Nat) : D.isNon (fN (some b)) = false := rfl
@[simp] theorem isNon_fN_none : D.isNon (fN none) = true := rfl
theorem fl_near2 {ns ss : List (List Nat)} {ds : List Nat} : dFld "Floor" "near" (flD ns ds ss) = some (.lst (dNN ns)) := rfl
theorem next_ok (near sts : List (List Nat)) (doors closed : List Nat) (T : Tb) (F : IsFl near doors) (s : Spt) (h : s.1 < near.length) :
    res n_next_spots m_next_spots [.imm (flD near doors sts), .imm (.lst (dN closed)), .imm (tabD fN T), .imm (spD s)] [] = some (.lst (dSp (nextS near closed T s)), []) := by
  obtain ⟨c, o⟩ := s
  dsimp only at h
  refine res_eq ?_
  have hrow := List.getElem?_eq_getElem h
  obtain ⟨r1, r2⟩ := F.row c _ hrow
  have hnc : (dNN near)[c]? = some (.lst (dN near[c])) := by rw [List.getElem?_map, hrow]; rfl
  unfold m_next_spots nextS
  have hfl := fl_near2 (ns := near) (ss := sts) (ds := doors)
  obtain ⟨fo, hfo⟩ : ∃ fo, fo = flD near doors sts := ⟨_, rfl⟩
  rw [← hfo] at hfl ⊢
  have l1 := opens_lc (env := [.imm fo, .imm (.lst (dN closed)), .imm (tabD fN T), .imm (spD (c, true)), .imm (.int (c : Nat)), .imm (.bl true), .un, .un]) (k := 1) (j := 7) (mi := iAny (mBin dIx (lFix (mFld "Floor" "near" (lVar 0))) (lVar 4))) near[c] closed (by omega) (by simp -implicitDefEqProofs [hrow, hfl]) rfl (by decide) ⟨.un, rfl, rfl⟩
  have zz : (opens near[c] closed).length < sizeLine := szL (by unfold opens; rw [List.length_map]; have := List.length_filter_le (fun o => !decide (o ∈ closed)) near[c]; omega)
  obtain ⟨tb, htb⟩ : ∃ tb, tb = tabD fN T := ⟨_, rfl⟩
  have q1 := inD_T false fN c T
  have q2 := inD_T true fN c T
  have q3 := get_T fN c T
  rw [← htb] at l1 q1 q2 q3 ⊢
  cases o with
  | true =>
    cases hl : lookT T c with
    | none =>
      rw [hl] at q1 q2 q3
      simp -implicitDefEqProofs at q1 q2 q3
      simp -implicitDefEqProofs [l1, q1, hrow]
    | some b =>
      rw [hl] at q1 q2 q3
      simp -implicitDefEqProofs at q1 q2 q3
      simp -implicitDefEqProofs [l1, q1, hrow, zz]
  | false =>
    cases hl : lookT T c with
    | none =>
      rw [hl] at q1 q2 q3
      simp -implicitDefEqProofs at q1 q2 q3
      simp -implicitDefEqProofs [q2]
    | some b =>
      rw [hl] at q1 q2 q3
      cases b with
      | none =>
        simp -implicitDefEqProofs at q1 q2 q3
        simp -implicitDefEqProofs [q2, q3]
      | some b =>
        simp -implicitDefEqProofs at q1 q2 q3
        simp -implicitDefEqProofs [q2, q3, fN]
theorem nextS_lt (near : List (List Nat)) (doors closed : List Nat) (T : Tb) (F : IsFl near doors) (hT : ∀ p ∈ T, p.1 < near.length ∧ ∀ x, p.2 = some x → x < near.length) (s : Spt) (h : s.1 < near.length) : ∀ t ∈ nextS near closed T s, t.1 < near.length := by
  obtain ⟨c, o⟩ := s
  dsimp only at h
  have hrow := List.getElem?_eq_getElem h
  obtain ⟨r1, r2⟩ := F.row c _ hrow
  intro t ht
  unfold nextS at ht
  cases o with
  | true =>
    simp only [if_true, hrow, Option.getD_some] at ht
    rcases List.mem_append.mp ht with ht | ht
    · unfold opens at ht
      obtain ⟨x, hx, rfl⟩ := List.mem_map.mp ht
      obtain ⟨row', e1, _⟩ := r2 x (List.mem_filter.mp hx).1
      exact (List.getElem?_eq_some_iff.mp e1).1
    · split at ht
      · obtain rfl := List.mem_singleton.mp ht; exact h
      · cases ht
  | false =>
    simp only [Bool.false_eq_true, if_false] at ht
    split at ht
    · obtain rfl := List.mem_singleton.mp ht; exact h
    · cases ht
    · rename_i b hl
      obtain rfl := List.mem_singleton.mp ht
      unfold lookT at hl
      obtain ⟨p, hp, hp2⟩ := Option.map_eq_some_iff.mp hl
      exact (hT p (List.mem_of_find?_eq_some hp)).2 b hp2
end Law
namespace Law
open PySem L2 Q
/-! ### the search, in plain words -/
abbrev StS := List Spt × List (Option Nat)
def addS (k : Nat) (st : StS) (t : Spt) : StS := if t ∈ st.1 then st else (st.1 ++ [t], st.2 ++ [some k])
def stepS (f : Spt → List Spt) (k : Nat) (st : StS) : StS := match st.1[k]? with
  | none => st
  | some s => (f s).foldl (addS k) st
def bfs (f : Spt → List Spt) (st0 : StS) : Nat → StS
  | 0 => st0
  | k + 1 => stepS f k (bfs f st0 k)
structure OkS (n : Nat) (st : StS) : Prop where
  nd : st.1.Nodup
  lt : ∀ s ∈ st.1, s.1 < n
  len : st.2.length = st.1.length
theorem addS_ok {n k : Nat} {st : StS} {t : Spt} (h : OkS n st) (ht : t.1 < n) : OkS n (addS k st t) := by
  unfold addS
  split
  · exact h
  · rename_i hn
    refine ⟨?_, fun s hs => ?_, by simp [h.len]⟩
    · rw [List.nodup_append]
      refine ⟨h.nd, by simp, fun a ha b hb => ?_⟩
      obtain rfl := List.mem_singleton.mp hb
      exact fun z => hn (z ▸ ha)
    · rcases List.mem_append.mp hs with hs | hs
      · exact h.lt s hs
      · obtain rfl := List.mem_singleton.mp hs; exact ht
theorem foldS_ok {n k : Nat} : ∀ (ts : List Spt) {st : StS}, OkS n st → (∀ t ∈ ts, t.1 < n) → OkS n (ts.foldl (addS k) st)
  | [], st, h, _ => h
  | t :: ts, st, h, ht => foldS_ok ts (addS_ok h (ht t List.mem_cons_self)) fun u hu => ht u (List.mem_cons_of_mem _ hu)
theorem stepS_ok {n k : Nat} {f : Spt → List Spt} {st : StS} (hf : ∀ s : Spt, s.1 < n → ∀ t ∈ f s, t.1 < n) (h : OkS n st) : OkS n (stepS f k st) := by
  unfold stepS
  split
  · exact h
  · rename_i s hs
    exact foldS_ok _ h (hf s (h.lt s (List.mem_of_getElem? hs)))
theorem bfs_ok {n : Nat} {f : Spt → List Spt} {st0 : StS} (hf : ∀ s : Spt, s.1 < n → ∀ t ∈ f s, t.1 < n) (h : OkS n st0) : ∀ k, OkS n (bfs f st0 k)
  | 0 => h
  | k + 1 => stepS_ok hf (bfs_ok hf h k)
theorem pigeon : ∀ (N : Nat) (l : List Nat), l.Nodup → (∀ x ∈ l, x < N) → l.length ≤ N
  | 0, l, _, h => by
    cases l with
    | nil => simp
    | cons a l => exact absurd (h a List.mem_cons_self) (by omega)
  | N + 1, l, hn, h => by
    by_cases hm : N ∈ l
    · have h1 := pigeon N (l.erase N) (hn.erase N) fun x hx => by
        obtain ⟨h2, h3⟩ := (List.Nodup.mem_erase_iff hn).mp hx
        have := h x h3
        omega
      rw [List.length_erase_of_mem hm] at h1
      omega
    · have h1 := pigeon N l hn fun x hx => by
        have := h x hx
        have : x ≠ N := fun z => hm (z ▸ hx)
        omega
      omega
def codeS (s : Spt) : Nat := 2 * s.1 + (if s.2 = true then 1 else 0)
theorem codeS_inj {s t : Spt} (h : codeS s = codeS t) : s = t := by
  obtain ⟨a, b⟩ := s
  obtain ⟨c, d⟩ := t
  unfold codeS at h
  cases b <;> cases d <;> simp at h <;> first | (obtain rfl : a = c := by omega); rfl | omega
theorem OkS.small {n : Nat} {st : StS} (h : OkS n st) : st.1.length ≤ 2 * n := by
  have h1 := pigeon (2 * n) (st.1.map codeS) (by
    unfold List.Nodup at *
    rw [List.pairwise_map]
    exact h.nd.imp fun hne z => hne (codeS_inj z)) fun x hx => by
      obtain ⟨s, hs, rfl⟩ := List.mem_map.mp hx
      have := h.lt s hs
      unfold codeS
      split <;> omega
  simpa using h1
theorem addS_len {k : Nat} {st : StS} {t : Spt} : st.1.length ≤ (addS k st t).1.length := by
  unfold addS; split <;> simp
theorem stop_one {f : Spt → List Spt} {k : Nat} {st : StS} (h : st.1.length ≤ k) : stepS f k st = st := by
  unfold stepS
  rw [List.getElem?_eq_none h]
theorem bfs_stop {f : Spt → List Spt} {st0 : StS} {m : Nat} (h : (bfs f st0 m).1.length ≤ m) : ∀ j, bfs f st0 (m + j) = bfs f st0 m
  | 0 => rfl
  | j + 1 => by
    show stepS f (m + j) (bfs f st0 (m + j)) = _
    rw [bfs_stop h j, stop_one (by omega)]
theorem bfs_at {f : Spt → List Spt} {st0 : StS} {k : Nat} {s : Spt} (h : (bfs f st0 k).1[k]? = some s) : bfs f st0 (k + 1) = (f s).foldl (addS k) (bfs f st0 k) := by
  show stepS f k (bfs f st0 k) = _
  unfold stepS; rw [h]
theorem fold_succ {k : Nat} {st : StS} {ts : List Spt} {j : Nat} {t : Spt} (h : ts[j]? = some t) : (ts.take (j + 1)).foldl (addS k) st = addS k ((ts.take j).foldl (addS k) st) t := by
  rw [List.take_add_one, h, List.foldl_append]; rfl
/-! ### spots as data -/
def spP (s : Spt) : PyData := .tuple [.int (s.1 : Nat), .bool s.2]
theorem toP_sp (s : Spt) : toP (spD s) = some (spP s) := rfl
theorem toPs_sp : ∀ xs : List Spt, toPs (dSp xs) = some (xs.map spP)
  | [] => rfl
  | x :: xs => by
    show (toP (spD x)).bind (fun p => (toPs (dSp xs)).map fun ps => p :: ps) = _
    rw [toP_sp, toPs_sp xs]; rfl
theorem eqv_sp (s t : Spt) : PyData.eqv (spP s) (spP t) = decide (s = t) := by
  obtain ⟨a, b⟩ := s
  obtain ⟨c, d⟩ := t
  have h1 : PyData.eqv (spP (a, b)) (spP (c, d)) = (decide ((a : Int) = (c : Int)) && decide (b = d)) := by
    simp -implicitDefEqProofs [spP, PyData.eqv, PyData.eqvAll]
    first | rfl | (cases b <;> cases d <;> simp)
  rw [h1, Bool.eq_iff_iff]
  simp only [Bool.and_eq_true, decide_eq_true_eq, Prod.mk.injEq]
  constructor
  · rintro ⟨h2, h3⟩; exact ⟨by omega, h3⟩
  · rintro ⟨h2, h3⟩; exact ⟨by omega, h3⟩
theorem lay_sp (s : Spt) : PyData.canLay0 (spP s) = true ∧ PyData.depth (spP s) ≤ 1 := ⟨rfl, by simp [spP, PyData.depth, PyData.depthAll]⟩
theorem lays_sp : ∀ xs : List Spt, PyData.canLayAll0 (xs.map spP) = true ∧ PyData.depthAll (xs.map spP) ≤ 2
  | [] => ⟨rfl, by simp [PyData.depthAll]⟩
  | x :: xs => by
    obtain ⟨h1, h2⟩ := lays_sp xs
    obtain ⟨h3, h4⟩ := lay_sp x
    constructor
    · simp -implicitDefEqProofs [PyData.canLayAll0, h1, h3]
    · simp -implicitDefEqProofs [PyData.depthAll]; omega
theorem shaped_sp (s : Spt) : SeqAt.shaped (spP s) = true := by
  obtain ⟨h3, h4⟩ := lay_sp s
  unfold SeqAt.shaped; rw [h3, Bool.true_and]; exact decide_eq_true (by omega)
theorem shaped_sps (xs : List Spt) : SeqAt.shaped (.list (xs.map spP)) = true := by
  obtain ⟨h3, h4⟩ := lays_sp xs
  unfold SeqAt.shaped
  have h1 : PyData.canLay0 (.list (xs.map spP)) = true := by simp -implicitDefEqProofs [PyData.canLay0, h3]
  have h2 : PyData.depth (.list (xs.map spP)) ≤ 64 := by simp -implicitDefEqProofs [PyData.depth]; omega
  rw [h1, Bool.true_and]; exact decide_eq_true h2
theorem any_sp (t : Spt) : ∀ xs : List Spt, (xs.map spP).any (fun z => PyData.eqv z (spP t)) = decide (t ∈ xs)
  | [] => by simp
  | x :: xs => by
    rw [List.map_cons, List.any_cons, any_sp t xs, eqv_sp]
    by_cases h : x = t
    · simp [h]
    · have h2 : ¬ t = x := fun z => h z.symm
      simp [h, h2]
theorem inP_sp (neg : Bool) (t : Spt) (xs : List Spt) : dInP neg (spD t) (.lst (dSp xs)) = some (.bl (if neg then !decide (t ∈ xs) else decide (t ∈ xs))) := by
  unfold dInP
  simp only [toP_sp, toPs_sp, Option.bind_some, shaped_sp, shaped_sps, Bool.and_self, if_true, any_sp]
/-! ### spots as keys -/
def kS (s : Spt) : List Int := [(s.1 : Nat), if s.2 = true then 1 else 0]
theorem kS_inj {s t : Spt} (h : kS s = kS t) : s = t := by
  obtain ⟨a, b⟩ := s
  obtain ⟨c, d⟩ := t
  unfold kS at h
  simp only [List.cons.injEq, and_true] at h
  obtain ⟨h1, h2⟩ := h
  obtain rfl : a = c := by omega
  cases b <;> cases d <;> simp at h2 <;> rfl
theorem nums_sp (s : Spt) : numsD (spD s) = some (kS s) := by
  obtain ⟨a, b⟩ := s
  rfl
theorem kS_mem (t : Spt) (xs : List Spt) : kS t ∈ xs.map kS ↔ t ∈ xs := by
  constructor
  · intro h
    obtain ⟨s, hs, e⟩ := List.mem_map.mp h
    exact kS_inj e ▸ hs
  · exact fun h => List.mem_map_of_mem h
abbrev seenD (xs : List Spt) : D := .dcn (xs.map kS) (xs.map fun _ => .bl true)
theorem inN_sp (neg : Bool) (t : Spt) (xs : List Spt) : dInN neg (spD t) (seenD xs) = some (.bl (if neg then !decide (t ∈ xs) else decide (t ∈ xs))) := by
  unfold dInN
  simp only [nums_sp, Option.map_some, kS_mem]
/-! ### starts in order -/
def ascN (ns : List Nat) : List Nat := (ascI (ns.map fun n => ((n : Nat) : Int))).map Int.toNat
theorem ascN_eq (ns : List Nat) : (ascI (ns.map fun n => ((n : Nat) : Int))).map D.int = dN (ascN ns) := by
  unfold ascN dN
  rw [List.map_map]
  refine List.map_congr_left fun k hk => ?_
  have h1 := (asc_mem k _).mp hk
  obtain ⟨n, _, rfl⟩ := List.mem_map.mp h1
  simp
theorem ascN_mem {ns : List Nat} {c : Nat} (h : c ∈ ascN ns) : c ∈ ns := by
  unfold ascN at h
  obtain ⟨k, hk, rfl⟩ := List.mem_map.mp h
  have h1 := (asc_mem k _).mp hk
  obtain ⟨n, hn, rfl⟩ := List.mem_map.mp h1
  simpa using hn
theorem ascN_nodup (ns : List Nat) : (ascN ns).Nodup := by
  have h := asc_pair (ns.map fun n => ((n : Nat) : Int))
  unfold ascN List.Nodup
  rw [List.pairwise_map]
  refine List.Pairwise.imp_of_mem (R := (· < ·)) (fun {a b} ha hb hab => ?_) h
  obtain ⟨n, _, rfl⟩ := List.mem_map.mp ((asc_mem a _).mp ha)
  obtain ⟨m, _, rfl⟩ := List.mem_map.mp ((asc_mem b _).mp hb)
  simp only [Int.toNat_natCast]
  omega
theorem ints_N : ∀ ns : List Nat, intsD (dN ns) = some (ns.map fun n => ((n : Nat) : Int))
  | [] => rfl
  | n :: ns => by
    have := ints_N ns
    simp [intsD, this]
theorem setSort_N (ns : List Nat) (h : ns.length ≤ 60) : dSetSort [.lst (dN ns)] = some (.lst (dN (ascN ns))) := by
  unfold dSetSort
  simp only [ints_N, Option.bind_some, List.length_map, h, if_true, ascN_eq]
theorem sorted_N (ns : List Nat) (h : ns.Nodup) : dSorted [.lst (dN ns)] = some (.lst (dN (ascN ns))) := by
  unfold dSorted
  simp only [ints_N, Option.map_some]
  have e : ascI (ns.map fun n => ((n : Nat) : Int)) = ordI (ns.map fun n => ((n : Nat) : Int)) := by
    refine ordI_eq ?_ ((asc_pair _).imp fun h => by omega)
    refine (List.perm_ext_iff_of_nodup ((asc_pair _).imp fun h => by omega) ?_).mpr fun k => asc_mem k _
    unfold List.Nodup at *
    rw [List.pairwise_map]
    exact h.imp fun hne z => hne (by omega)
  rw [← e, ascN_eq]
def st0S (starts closed : List Nat) : StS := (opens (ascN starts) closed, (opens (ascN starts) closed).map fun _ => none)
theorem st0_ok {n : Nat} {starts closed : List Nat} (h : ∀ c ∈ starts, c < n) : OkS n (st0S starts closed) := by
  refine ⟨?_, fun s hs => ?_, by simp [st0S]⟩
  · unfold st0S opens List.Nodup
    rw [List.pairwise_map]
    have hnd : ((ascN starts).filter fun o => !decide (o ∈ closed)).Nodup := (ascN_nodup starts).filter _
    unfold List.Nodup at hnd
    exact hnd.imp fun {a b} hab z => hab (congrArg Prod.fst z)
  · unfold st0S opens at hs
    obtain ⟨c, hc, rfl⟩ := List.mem_map.mp hs
    exact h c (ascN_mem (List.mem_filter.mp hc).1)
abbrev dPa (ps : List (Option Nat)) : List D := ps.map fN
end Law
namespace Law
open PySem L2 Q
theorem parkLc {w : Nat} {vs : List Nat} {gf : D → En → Option En} {mt : MT} {me : ME} {env : En} {xs : List D} (hw : env[w]? = some (.own (.lst xs))) :
    mLcP w vs gf mt me env = (mLc vs (fun e => some (xs, e)) gf mt me (env.set w .un)).map fun q => (q.1, q.2.set w (.own (.lst xs))) := by
  unfold mLcP mLc
  rw [hw]
  simp only [Option.bind_some]
  split
  · cases lcLoop gf mt me vs xs [] (env.set w .un) <;> rfl
  · rfl
theorem nones_lc {env : En} {j : Nat} (xs : List D) (hn : xs.length ≤ 10000) (hj : ∃ s, env[j]? = some s ∧ s.calm = true) :
    mLc [j] (fun e => some (xs, e)) (gN j) mYes (mC .non) env = some (.lst (xs.map fun _ => .non), env) := by
  obtain ⟨s, hs, hc⟩ := hj
  have hlt : j < env.length := (List.getElem?_eq_some_iff.mp hs).1
  have hself : env.set j s = env := by
    obtain ⟨h, rfl⟩ := List.getElem?_eq_some_iff.mp hs
    exact List.set_getElem_self h
  obtain ⟨acc, e2, hlc, ⟨t2, rfl⟩, hl⟩ := lc_ok (vs := [j]) (mi := fun e => some (xs, e)) (gf := gN j) (mt := mYes) (me := mC .non) (env := env) (e0 := env) (ds := xs)
    rfl (by simp -implicitDefEqProofs [calmAt, hs, hc]) hn (fun e => ∃ t, e = env.set j t) (fun n acc => acc = (xs.take n).map fun _ => .non) ⟨s, hself.symm⟩ rfl (by
      rintro i d e acc hd ⟨t, rfl⟩ rfl
      refine ⟨env.set j (.imm d), true, env.set j (.imm d), by simp -implicitDefEqProofs [wipeE, hlt], rfl, fun _ => ⟨.non, env.set j (.imm d), rfl, ⟨_, rfl⟩, ?_⟩, by simp -implicitDefEqProofs⟩
      rw [List.take_succ, hd]; simp -implicitDefEqProofs)
  rw [hlc, hl]
  simp -implicitDefEqProofs [backE, wipeE, hs, hself]
theorem set_back {env : En} {w : Nat} {s : Sl} (hw : env[w]? = some s) : (env.set w .un).set w s = env := by
  rw [List.set_set]
  obtain ⟨h, rfl⟩ := List.getElem?_eq_some_iff.mp hw
  exact List.set_getElem_self h
theorem nones_lcP {env : En} {w j : Nat} {xs : List D} (hn : xs.length ≤ 10000) (hw : env[w]? = some (.own (.lst xs))) (hwj : w ≠ j) (hj : ∃ s, env[j]? = some s ∧ s.calm = true) :
    mLcP w [j] (gN j) mYes (mC .non) env = some (.lst (xs.map fun _ => .non), env) := by
  rw [parkLc hw, nones_lc xs hn (by obtain ⟨s, h1, h2⟩ := hj; exact ⟨s, by rw [List.getElem?_set_ne hwj]; exact h1, h2⟩)]
  simp only [Option.map_some, set_back hw]
end Law
namespace Law
open PySem L2 Q
theorem putN_new {t : Spt} {xs : List Spt} (h : t ∉ xs) : putN (kS t) (xs.map kS) = (xs ++ [t]).map kS := by
  unfold putN
  rw [if_neg (fun z => h ((kS_mem t xs).mp z)), List.map_append]; rfl
theorem putX_new {t : Spt} {xs : List Spt} (h : t ∉ xs) : putX (kS t) (D.bl true) (xs.map kS) (xs.map fun _ => D.bl true) = (xs ++ [t]).map fun _ => D.bl true := by
  unfold putX
  rw [if_neg (fun z => h ((kS_mem t xs).mp z)), List.map_append]; rfl
theorem W_putSeen {i : Nat} {x y : ME} {env env1 env2 : En} {Q : Fl → Prop} {xs : List Spt} {t : Spt} (h1 : x env = some (.bl true, env1)) (h2 : env1[i]? = some (.own (seenD xs))) (h3 : y env1 = some (spD t, env2)) (h4 : env2[i]? = some (.own (seenD xs))) (hz : xs.length < 10000) (hn : t ∉ xs)
    (hq : Q (.nx (env2.set i (.own (seenD (xs ++ [t])))))) : W (mSetN i x y) env Q := by
  rw [W_setN, h1, Gt_some]
  have e1 : ownN env1 i = some (xs.map kS, xs.map fun _ => .bl true) := by simp [h2, seenD]
  have e2 : ownN env2 i = some (xs.map kS, xs.map fun _ => .bl true) := by simp [h4, seenD]
  rw [e1, Gt_some, h3, Gt_some, e2, Gt_some, nums_sp, Gt_some]
  refine ⟨by rw [List.length_map]; exact szL hz, ?_⟩
  rw [putN_new hn, putX_new hn]
  have e3 : putS env2 i (seenD (xs ++ [t])) = env2.set i (.own (seenD (xs ++ [t]))) := by unfold putS; rw [h4]; rfl
  rw [e3]
  exact hq
theorem seen_loop {env : En} {j : Nat} (hj : j < env.length) : ∀ (xs done : List Spt) (t : Sl), (done ++ xs).Nodup → (done ++ xs).length < 10000 →
    ∃ t2, dnLoop (gN j) mYes (mVar j) (mC (.bl true)) [j] (dSp xs) (done.map kS) (done.map fun _ => .bl true) (env.set j t) = some ((done ++ xs).map kS, (done ++ xs).map (fun _ => .bl true), env.set j t2)
  | [], done, t, _, _ => ⟨t, by simp [dnLoop]⟩
  | x :: xs, done, t, hn, hl => by
    have hnx : x ∉ done := fun h => by
      rw [List.nodup_append] at hn
      exact hn.2.2 x h x List.mem_cons_self rfl
    have e : done ++ x :: xs = (done ++ [x]) ++ xs := by simp
    obtain ⟨t2, h2⟩ := seen_loop hj xs (done ++ [x]) (.imm (spD x)) (by rw [← e]; exact hn) (by rw [← e]; exact hl)
    refine ⟨t2, ?_⟩
    rw [e, ← h2]
    have hz : done.length < sizeLine := szL (by simp at hl; omega)
    show ((gN j (spD x) (wipeE (env.set j t) [j])).bind fun e1 => (mYes e1).bind fun p => if p.1 then (mVar j p.2).bind fun q => (numsD q.1).bind fun k => (mC (.bl true) q.2).bind fun r => if (done.map fun _ => D.bl true).length < sizeLine then dnLoop (gN j) mYes (mVar j) (mC (.bl true)) [j] (dSp xs) (putN k (done.map kS)) (putX k r.1 (done.map kS) (done.map fun _ => .bl true)) r.2 else none else dnLoop (gN j) mYes (mVar j) (mC (.bl true)) [j] (dSp xs) (done.map kS) (done.map fun _ => .bl true) p.2) = _
    have g1 : gN j (spD x) (wipeE (env.set j t) [j]) = some (env.set j (.imm (spD x))) := by simp -implicitDefEqProofs [wipeE, hj]
    have g2 : mVar j (env.set j (.imm (spD x))) = some (spD x, env.set j (.imm (spD x))) := by simp -implicitDefEqProofs [hj]
    rw [g1, bind_some2, ap_Yes, bind_some2]
    simp -implicitDefEqProofs only [if_true]
    rw [g2, bind_some2, nums_sp, bind_some2, ap_C, bind_some2, List.length_map, if_pos hz]
    simp -implicitDefEqProofs only [putN_new hnx, putX_new hnx]
theorem seen_dnP {env : En} {w j : Nat} {xs : List Spt} (hn : xs.length < 10000) (hnd : xs.Nodup) (hw : env[w]? = some (.own (.lst (dSp xs)))) (hwj : w ≠ j) (hj : ∃ s, env[j]? = some s ∧ s.calm = true) :
    mDnP w [j] (gN j) mYes (mVar j) (mC (.bl true)) env = some (seenD xs, env) := by
  obtain ⟨s, hs, hc⟩ := hj
  have hs2 : (env.set w .un)[j]? = some s := by rw [List.getElem?_set_ne hwj]; exact hs
  have hlt : j < (env.set w .un).length := (List.getElem?_eq_some_iff.mp hs2).1
  have hself : (env.set w .un).set j s = env.set w .un := by
    obtain ⟨h, rfl⟩ := List.getElem?_eq_some_iff.mp hs2
    exact List.set_getElem_self h
  obtain ⟨t2, h2⟩ := seen_loop (env := env.set w .un) hlt xs [] s (by simpa using hnd) (by simpa using hn)
  rw [hself] at h2
  unfold mDnP
  rw [hw]
  dsimp only
  have hcalm : calmAt (env.set w .un) [j] = true := by simp -implicitDefEqProofs [calmAt, hs2, hc]
  rw [if_pos hcalm]
  have h3 : dnLoop (gN j) mYes (mVar j) (mC (.bl true)) [j] (dSp xs) [] [] (env.set w .un) = some (xs.map kS, xs.map (fun _ => .bl true), (env.set w .un).set j t2) := h2
  rw [h3]
  simp only [Option.map_some]
  have hb : backE (env.set w .un) (wipeE ((env.set w .un).set j t2) [j]) [j] = env.set w .un := by
    simp -implicitDefEqProofs only [backE, wipeE, hs2, List.set_set, hself]
  rw [hb, set_back hw]
theorem explore_ok (near sts ws : List (List Nat)) (doors closed starts : List Nat) (F : IsFl near doors) (hwl : ws.length ≤ 10) (hww : ∀ w ∈ ws, w.length ≤ 31 ∧ ∀ c ∈ w, c < near.length) (hT : ∀ p ∈ ahT ws, p.1 < near.length ∧ ∀ x, p.2 = some x → x < near.length) (hs : ∀ c ∈ starts, c < near.length) (hl : starts.length ≤ 10) :
    res n_explore m_explore [.imm (flD near doors sts), .imm (.lst (dN closed)), .imm (.lst (dNN ws)), .imm (.lst (dN starts))] [] =
      some (.tup [.lst (dSp (bfs (nextS near closed (ahT ws)) (st0S starts closed) (2 * near.length)).1), .lst (dPa (bfs (nextS near closed (ahT ws)) (st0S starts closed) (2 * near.length)).2)], []) := by
  have hle := F.le
  have hf : ∀ s : Spt, s.1 < near.length → ∀ t ∈ nextS near closed (ahT ws) s, t.1 < near.length := fun s h => nextS_lt near doors closed (ahT ws) F hT s h
  have hok := bfs_ok hf (st0_ok (closed := closed) hs)
  have hnx : ∀ s : Spt, s.1 < near.length → res n_next_spots m_next_spots [.imm (flD near doors sts), .imm (.lst (dN closed)), .imm (tabD fN (ahT ws)), .imm (spD s)] [] = some (.lst (dSp (nextS near closed (ahT ws) s)), []) := fun s h => next_ok near sts doors closed (ahT ws) F s h
  have hah := ahead_ok ws hwl fun w hw => (hww w hw).1
  obtain ⟨f, hfe⟩ : ∃ f, f = nextS near closed (ahT ws) := ⟨_, rfl⟩
  obtain ⟨tb, htb⟩ : ∃ tb, tb = tabD fN (ahT ws) := ⟨_, rfl⟩
  obtain ⟨fo, hfo⟩ : ∃ fo, fo = flD near doors sts := ⟨_, rfl⟩
  rw [← hfe] at hf hok hnx ⊢
  rw [← htb] at hnx hah
  rw [← hfo] at hnx ⊢
  refine res_eq ?_
  show W m_explore [.imm fo, .imm (.lst (dN closed)), .imm (.lst (dNN ws)), .imm (.lst (dN starts)), .un, .un, .un, .un, .un, .un, .un, .un, .un] _
  have hal : (ascN starts).length ≤ near.length := pigeon _ _ (ascN_nodup starts) fun c hc => hs c (ascN_mem hc)
  have ho : (opens (ascN starts) closed).length ≤ 30 := by
    unfold opens; rw [List.length_map]
    have := List.length_filter_le (fun o => !decide (o ∈ closed)) (ascN starts)
    omega
  have hnd0 : (opens (ascN starts) closed).Nodup := (st0_ok (n := near.length) (closed := closed) hs).nd
  have hso := setSort_N starts (by omega)
  have l1 := opens_lc (env := [.imm fo, .imm (.lst (dN closed)), .imm (.lst (dNN ws)), .imm (.lst (dN starts)), .imm tb, .un, .un, .un, .un, .un, .un, .un, .un]) (k := 1) (j := 11) (mi := iAny (mBi dSetSort (bCons (lVar 3) bNil))) (ascN starts) closed (by omega) (by simp -implicitDefEqProofs [hso]) rfl (by decide) ⟨.un, rfl, rfl⟩
  have l2 := nones_lcP (env := [.imm fo, .imm (.lst (dN closed)), .imm (.lst (dNN ws)), .imm (.lst (dN starts)), .imm tb, .own (.lst (dSp (opens (ascN starts) closed))), .un, .un, .un, .un, .un, .un, .un]) (w := 5) (j := 12) (xs := dSp (opens (ascN starts) closed)) (by rw [List.length_map]; omega) rfl (by decide) ⟨.un, rfl, rfl⟩
  have l3 := seen_dnP (env := [.imm fo, .imm (.lst (dN closed)), .imm (.lst (dNN ws)), .imm (.lst (dN starts)), .imm tb, .own (.lst (dSp (opens (ascN starts) closed))), .own (.lst ((dSp (opens (ascN starts) closed)).map fun _ => .non)), .un, .un, .un, .un, .un, .un]) (w := 5) (j := 10) (xs := opens (ascN starts) closed) (by omega) hnd0 rfl (by decide) ⟨.un, rfl, rfl⟩
  have l4 : mCallV n_ahead_table 1 m_ahead_table (cImm (mVar 2) cNil) [.imm fo, .imm (.lst (dN closed)), .imm (.lst (dNN ws)), .imm (.lst (dN starts)), .un, .un, .un, .un, .un, .un, .un, .un, .un] = some (tb, [.imm fo, .imm (.lst (dN closed)), .imm (.lst (dNN ws)), .imm (.lst (dN starts)), .un, .un, .un, .un, .un, .un, .un, .un, .un]) := by
    simp -implicitDefEqProofs [V_eq, hah]
  unfold m_explore
  simp -implicitDefEqProofs only [W_seq, W_asgF, W_asg, l4, l1, Gt_some, sqK_nx, List.set_cons_zero, List.set_cons_succ, List.length_cons, List.length_nil, l2, l3, ap_C, Nat.reduceLT, Nat.reduceAdd, true_and]
  obtain ⟨P, hP⟩ := inv fun r e => ∃ (k : Nat) (s t u v : Sl), r + k = 2 * near.length ∧ e = [.imm fo, .imm (.lst (dN closed)), .imm (.lst (dNN ws)), .imm (.lst (dN starts)), .imm tb, .own (.lst (dSp (bfs f (st0S starts closed) k).1)), .own (.lst (dPa (bfs f (st0S starts closed) k).2)), .own (seenD (bfs f (st0S starts closed) k).1), .imm (.int (k : Nat)), s, t, u, v]
  refine W_wh P (2 * near.length) (by
    rw [hP]; refine ⟨0, .un, .un, .un, .un, rfl, ?_⟩; simp -implicitDefEqProofs [bfs, st0S, fN]) (show 2 * near.length < 10000 by omega) ?_
  intro r e h
  rw [hP] at h
  obtain ⟨k, s, t, u, v, hrk, rfl⟩ := h
  have hokk := hok k
  have hsm := hokk.small
  have hbat := fun s => bfs_at (f := f) (st0 := st0S starts closed) (k := k) (s := s)
  have hstop : (bfs f (st0S starts closed) k).1.length ≤ k → bfs f (st0S starts closed) (k + r) = bfs f (st0S starts closed) k := fun h => bfs_stop h r
  obtain ⟨st, hst⟩ : ∃ st, st = bfs f (st0S starts closed) k := ⟨_, rfl⟩
  rw [← hst] at hokk hsm hbat hstop ⊢
  refine ⟨decide (k < st.1.length), [.imm fo, .imm (.lst (dN closed)), .imm (.lst (dNN ws)), .imm (.lst (dN starts)), .imm tb, .own (.lst (dSp st.1)), .own (.lst (dPa st.2)), .own (seenD st.1), .imm (.int (k : Nat)), s, t, u, v], by simp -implicitDefEqProofs, fun hq => ?_, fun hq => ?_⟩
  · have hkl : k < st.1.length := of_decide_eq_true hq
    refine ⟨r - 1, by omega, ?_⟩
    have hat := List.getElem?_eq_getElem hkl
    obtain ⟨sp, hsp⟩ : ∃ sp, sp = st.1[k] := ⟨_, rfl⟩
    rw [← hsp] at hat
    have hspn : sp.1 < near.length := hokk.lt sp (List.mem_of_getElem? hat)
    have hbat := hbat sp hat
    have hn1 := hnx sp hspn
    have hft := hf sp hspn
    have hkd : (dSp st.1)[k]? = some (spD sp) := by rw [List.getElem?_map, hat]; rfl
    have l5 : mCallV n_next_spots 4 m_next_spots (cBor 0 (cBor 1 (cBor 4 (cImm (mBin dIx (lVar 5) (lVar 8)) cNil)))) [.imm fo, .imm (.lst (dN closed)), .imm (.lst (dNN ws)), .imm (.lst (dN starts)), .imm tb, .own (.lst (dSp st.1)), .own (.lst (dPa st.2)), .own (seenD st.1), .imm (.int (k : Nat)), s, t, u, v] = some (.lst (dSp (f sp)), [.imm fo, .imm (.lst (dN closed)), .imm (.lst (dNN ws)), .imm (.lst (dN starts)), .imm tb, .own (.lst (dSp st.1)), .own (.lst (dPa st.2)), .own (seenD st.1), .imm (.int (k : Nat)), s, t, u, v]) := by
      simp -implicitDefEqProofs [V_eq, hkd, hn1]
    simp -implicitDefEqProofs only [W_seq, W_asg, l5, Gt_some, sqK_nx, List.set_cons_zero, List.set_cons_succ, List.length_cons, List.length_nil, Nat.reduceLT, Nat.reduceAdd, true_and]
    obtain ⟨P2, hP2⟩ := inv fun j e => ∃ (t u v : Sl), e = [.imm fo, .imm (.lst (dN closed)), .imm (.lst (dNN ws)), .imm (.lst (dN starts)), .imm tb, .own (.lst (dSp (((f sp).take j).foldl (addS k) st).1)), .own (.lst (dPa (((f sp).take j).foldl (addS k) st).2)), .own (seenD (((f sp).take j).foldl (addS k) st).1), .imm (.int (k : Nat)), .imm (.lst (dSp (f sp))), t, u, v]
    refine W_for (ds := dSp (f sp)) (e0 := [.imm fo, .imm (.lst (dN closed)), .imm (.lst (dNN ws)), .imm (.lst (dN starts)), .imm tb, .own (.lst (dSp st.1)), .own (.lst (dPa st.2)), .own (seenD st.1), .imm (.int (k : Nat)), .imm (.lst (dSp (f sp))), t, u, v]) (by simp -implicitDefEqProofs) P2 (by rw [hP2]; exact ⟨t, u, v, rfl⟩) ?_ ?_
    · intro j d e hd h
      rw [hP2] at h
      obtain ⟨t, u, v, rfl⟩ := h
      rw [List.getElem?_map] at hd
      obtain ⟨x, hx, rfl⟩ := Option.map_eq_some_iff.mp hd
      have hok2 : OkS near.length (((f sp).take j).foldl (addS k) st) := foldS_ok _ hokk fun t ht => hft t (List.mem_of_mem_take ht)
      have hsm2 := hok2.small
      have hlen2 := hok2.len
      have hsucc := fold_succ (k := k) (st := st) hx
      obtain ⟨S, hS⟩ : ∃ S, S = ((f sp).take j).foldl (addS k) st := ⟨_, rfl⟩
      rw [← hS] at hok2 hsm2 hlen2 hsucc ⊢
      refine ⟨[.imm fo, .imm (.lst (dN closed)), .imm (.lst (dNN ws)), .imm (.lst (dN starts)), .imm tb, .own (.lst (dSp S.1)), .own (.lst (dPa S.2)), .own (seenD S.1), .imm (.int (k : Nat)), .imm (.lst (dSp (f sp))), .imm (spD x), u, v], by simp -implicitDefEqProofs, ?_⟩
      have z1 : S.1.length < sizeLine := szL (by omega)
      have z2 : S.2.length < sizeLine := szL (by omega)
      have hin := inN_sp true x S.1
      have hadd : addS k S x = if x ∈ S.1 then S else (S.1 ++ [x], S.2 ++ [some k]) := rfl
      have l6 : mTest (mBin (dInN true) (lVar 10) (lVar 7)) [.imm fo, .imm (.lst (dN closed)), .imm (.lst (dNN ws)), .imm (.lst (dN starts)), .imm tb, .own (.lst (dSp S.1)), .own (.lst (dPa S.2)), .own (seenD S.1), .imm (.int (k : Nat)), .imm (.lst (dSp (f sp))), .imm (spD x), u, v] = some (!decide (x ∈ S.1), [.imm fo, .imm (.lst (dN closed)), .imm (.lst (dNN ws)), .imm (.lst (dN starts)), .imm tb, .own (.lst (dSp S.1)), .own (.lst (dPa S.2)), .own (seenD S.1), .imm (.int (k : Nat)), .imm (.lst (dSp (f sp))), .imm (spD x), u, v]) := by
        obtain ⟨sd, hsd⟩ : ∃ sd, sd = seenD S.1 := ⟨_, rfl⟩
        rw [← hsd] at hin ⊢
        simp -implicitDefEqProofs [hin]
      rw [W_if, l6, Gt_some]
      by_cases hm : x ∈ S.1
      · rw [if_pos hm] at hadd
        simp -implicitDefEqProofs only [hm, decide_true, Bool.not_true, Bool.false_eq_true, if_false, W_next, lp_nx]
        rw [hP2]
        dsimp only
        rw [hsucc, hadd]
        exact ⟨_, _, _, rfl⟩
      · rw [if_neg hm] at hadd
        simp -implicitDefEqProofs only [hm, decide_false, Bool.not_false, if_true]
        rw [W_seq]
        refine W_putSeen (xs := S.1) (t := x) (env1 := [.imm fo, .imm (.lst (dN closed)), .imm (.lst (dNN ws)), .imm (.lst (dN starts)), .imm tb, .own (.lst (dSp S.1)), .own (.lst (dPa S.2)), .own (seenD S.1), .imm (.int (k : Nat)), .imm (.lst (dSp (f sp))), .imm (spD x), u, v]) (env2 := [.imm fo, .imm (.lst (dN closed)), .imm (.lst (dNN ws)), .imm (.lst (dN starts)), .imm tb, .own (.lst (dSp S.1)), .own (.lst (dPa S.2)), .own (seenD S.1), .imm (.int (k : Nat)), .imm (.lst (dSp (f sp))), .imm (spD x), u, v]) rfl rfl rfl rfl (by omega) hm ?_
        obtain ⟨sd, hsd⟩ : ∃ sd, sd = seenD (S.1 ++ [x]) := ⟨_, rfl⟩
        rw [← hsd]
        simp -implicitDefEqProofs [z1, z2]
        rw [hP2]
        dsimp only
        rw [hsucc, hadd]
        exact ⟨.imm (spD x), u, v, by simp -implicitDefEqProofs [fN, hsd]⟩
    · intro e h
      rw [hP2] at h
      obtain ⟨t, u, v, rfl⟩ := h
      rw [List.length_map, List.take_length, ← hbat]
      obtain ⟨sd, hsd⟩ : ∃ sd, sd = seenD (bfs f (st0S starts closed) (k + 1)).1 := ⟨_, rfl⟩
      rw [← hsd]
      simp -implicitDefEqProofs
      rw [hP]
      exact ⟨k + 1, _, _, _, _, by omega, by rw [hsd]; rfl⟩
  · have hkl : ¬ k < st.1.length := of_decide_eq_false hq
    have hstop := hstop (by omega)
    rw [show k + r = 2 * near.length by omega] at hstop
    obtain ⟨sd, hsd⟩ : ∃ sd, sd = seenD st.1 := ⟨_, rfl⟩
    rw [← hsd, hstop]
    simp -implicitDefEqProofs
end Law
namespace Law
abbrev Sp2 := Nat × Bool
/-! ## one way more: the links behind a path -/
/-- v stands just behind u -/
def Cn : List Sp2 → Sp2 → Sp2 → Prop
  | s :: t :: r, u, v => (u = s ∧ v = t) ∨ Cn (t :: r) u v
  | _, _, _ => False
theorem cn_mem : ∀ {P : List Sp2} {u v : Sp2}, Cn P u v → u ∈ P ∧ v ∈ P.tail
  | [], _, _, h => h.elim
  | [_], _, _, h => h.elim
  | s :: t :: r, u, v, h => by
    rcases h with ⟨rfl, rfl⟩ | h
    · exact ⟨List.mem_cons_self, List.mem_cons_self⟩
    · have := cn_mem h
      exact ⟨List.mem_cons_of_mem _ this.1, List.mem_cons_of_mem _ this.2⟩
theorem cn_fun : ∀ {P : List Sp2} {u v w : Sp2}, P.Nodup → Cn P u v → Cn P u w → v = w
  | [], _, _, _, _, h, _ => h.elim
  | [_], _, _, _, _, h, _ => h.elim
  | s :: t :: r, u, v, w, hn, h1, h2 => by
    have hs := (List.nodup_cons.mp hn).1
    rcases h1 with ⟨rfl, rfl⟩ | h1
    · rcases h2 with ⟨_, rfl⟩ | h2
      · rfl
      · exact absurd (cn_mem h2).1 hs
    · rcases h2 with ⟨rfl, rfl⟩ | h2
      · exact absurd (cn_mem h1).1 hs
      · exact cn_fun (List.nodup_cons.mp hn).2 h1 h2
theorem cn_inj : ∀ {P : List Sp2} {u v w : Sp2}, P.Nodup → Cn P u w → Cn P v w → u = v
  | [], _, _, _, _, h, _ => h.elim
  | [_], _, _, _, _, h, _ => h.elim
  | s :: t :: r, u, v, w, hn, h1, h2 => by
    have ht := (List.nodup_cons.mp (List.nodup_cons.mp hn).2).1
    rcases h1 with ⟨rfl, rfl⟩ | h1
    · rcases h2 with ⟨rfl, _⟩ | h2
      · rfl
      · exact absurd (cn_mem h2).2 ht
    · rcases h2 with ⟨rfl, rfl⟩ | h2
      · exact absurd (cn_mem h1).2 ht
      · exact cn_inj (List.nodup_cons.mp hn).2 h1 h2
theorem cn_next : ∀ {P : List Sp2} {u : Sp2}, u ∈ P → P.getLast? = some u ∨ ∃ v, Cn P u v
  | [], _, h => by cases h
  | [s], u, h => by obtain rfl := List.mem_singleton.mp h; exact .inl rfl
  | s :: t :: r, u, h => by
    rcases List.mem_cons.mp h with rfl | h
    · exact .inr ⟨t, .inl ⟨rfl, rfl⟩⟩
    · rcases cn_next h with h | ⟨v, h⟩
      · exact .inl (by rw [List.getLast?_cons_cons]; exact h)
      · exact .inr ⟨v, .inr h⟩
theorem cn_prev : ∀ {P : List Sp2} {v : Sp2}, v ∈ P → P.head? = some v ∨ ∃ u, Cn P u v
  | [], _, h => by cases h
  | [s], u, h => by obtain rfl := List.mem_singleton.mp h; exact .inl rfl
  | s :: t :: r, v, h => by
    rcases List.mem_cons.mp h with rfl | h
    · exact .inl rfl
    · rcases cn_prev h with h | ⟨u, h⟩
      · simp at h; subst h; exact .inr ⟨s, .inl ⟨rfl, rfl⟩⟩
      · exact .inr ⟨u, .inr h⟩
theorem cn_last : ∀ {P : List Sp2} {u v : Sp2}, P.Nodup → P.getLast? = some u → ¬ Cn P u v
  | [], _, _, _, _, h => h
  | [_], _, _, _, _, h => h
  | s :: t :: r, u, v, hn, hl, h => by
    rw [List.getLast?_cons_cons] at hl
    rcases h with ⟨rfl, rfl⟩ | h
    · exact (List.nodup_cons.mp hn).1 (List.mem_of_getLast? hl)
    · exact cn_last (List.nodup_cons.mp hn).2 hl h
theorem cn_head {P : List Sp2} {u v : Sp2} (hn : P.Nodup) (hl : P.head? = some v) (h : Cn P u v) : False := by
  cases P with
  | nil => exact h
  | cons s r =>
    simp at hl; subst hl
    exact (List.nodup_cons.mp hn).1 (cn_mem h).2
/-- a step changes the links -/
def chg (L : List (Nat × Nat)) (s t : Sp2) : List (Nat × Nat) :=
  if s.1 ≠ t.1 ∧ s.2 = true then L ++ [(s.1, t.1)] else if s.1 ≠ t.1 then L.filter (fun l => decide (l ≠ (t.1, s.1))) else L
def chgs : List (Nat × Nat) → List Sp2 → List (Nat × Nat)
  | L, s :: t :: r => chgs (chg L s t) (t :: r)
  | L, _ => L
def AddL (P : List Sp2) (x y : Nat) : Prop := x ≠ y ∧ ∃ b, Cn P (x, true) (y, b)
def RemL (P : List Sp2) (x y : Nat) : Prop := x ≠ y ∧ ∃ b, Cn P (y, false) (x, b)
theorem chgs_mem {x y : Nat} : ∀ {P : List Sp2} {L : List (Nat × Nat)}, P.Nodup → (∀ c v, Cn P (c, false) v → v.2 = true) → ((x, y) ∈ chgs L P ↔ AddL P x y ∨ ((x, y) ∈ L ∧ ¬ RemL P x y))
  | [], L, _, _ => by simp [chgs, AddL, RemL, Cn]
  | [_], L, _, _ => by simp [chgs, AddL, RemL, Cn]
  | s :: t :: r, L, hn, hv => by
    obtain ⟨hs, hn2⟩ := List.nodup_cons.mp hn
    have ih := chgs_mem (x := x) (y := y) (P := t :: r) (L := chg L s t) hn2 fun c v h => hv c v (.inr h)
    show (x, y) ∈ chgs (chg L s t) (t :: r) ↔ _
    rw [ih]
    obtain ⟨c, o⟩ := s
    obtain ⟨d, p⟩ := t
    unfold chg
    dsimp only
    by_cases hcd : c = d
    · subst hcd
      have e1 : AddL ((c, o) :: (c, p) :: r) x y ↔ AddL ((c, p) :: r) x y := by
        unfold AddL
        constructor
        · rintro ⟨h1, b, ⟨h2, h3⟩ | h⟩
          · injection h2 with h2 _; injection h3 with h3 _; omega
          · exact ⟨h1, b, h⟩
        · rintro ⟨h1, b, h⟩; exact ⟨h1, b, .inr h⟩
      have e2 : RemL ((c, o) :: (c, p) :: r) x y ↔ RemL ((c, p) :: r) x y := by
        unfold RemL
        constructor
        · rintro ⟨h1, b, ⟨h2, h3⟩ | h⟩
          · injection h2 with h2 _; injection h3 with h3 _; omega
          · exact ⟨h1, b, h⟩
        · rintro ⟨h1, b, h⟩; exact ⟨h1, b, .inr h⟩
      rw [e1, e2]; simp
    · cases o with
      | true =>
        have e2 : RemL ((c, true) :: (d, p) :: r) x y ↔ RemL ((d, p) :: r) x y := by
          unfold RemL
          constructor
          · rintro ⟨h1, b, ⟨h2, h3⟩ | h⟩
            · injection h2 with _ h2; cases h2
            · exact ⟨h1, b, h⟩
          · rintro ⟨h1, b, h⟩; exact ⟨h1, b, .inr h⟩
        have e1 : AddL ((c, true) :: (d, p) :: r) x y ↔ (x = c ∧ y = d) ∨ AddL ((d, p) :: r) x y := by
          unfold AddL
          constructor
          · rintro ⟨h1, b, ⟨h2, h3⟩ | h⟩
            · injection h2 with h2 _; injection h3 with h3 _; exact .inl ⟨h2, h3⟩
            · exact .inr ⟨h1, b, h⟩
          · rintro (⟨rfl, rfl⟩ | ⟨h1, b, h⟩)
            · exact ⟨hcd, p, .inl ⟨rfl, rfl⟩⟩
            · exact ⟨h1, b, .inr h⟩
        have e3 : x = c ∧ y = d → ¬ RemL ((d, p) :: r) x y := by
          rintro ⟨rfl, rfl⟩ ⟨_, b, h⟩
          have hb := hv y (x, b) (.inr h)
          dsimp only at hb
          subst hb
          exact hs (List.mem_cons_of_mem _ (cn_mem h).2)
        rw [e1, e2, if_pos ⟨hcd, rfl⟩]
        simp only [List.mem_append, List.mem_singleton, Prod.mk.injEq]
        constructor
        · rintro (h | ⟨h | h, h2⟩)
          · exact .inl (.inr h)
          · exact .inr ⟨h, h2⟩
          · exact .inl (.inl h)
        · rintro ((h | h) | ⟨h, h2⟩)
          · exact .inr ⟨.inr h, e3 h⟩
          · exact .inl h
          · exact .inr ⟨.inl h, h2⟩
      | false =>
        have e1 : AddL ((c, false) :: (d, p) :: r) x y ↔ AddL ((d, p) :: r) x y := by
          unfold AddL
          constructor
          · rintro ⟨h1, b, ⟨h2, h3⟩ | h⟩
            · injection h2 with _ h2; cases h2
            · exact ⟨h1, b, h⟩
          · rintro ⟨h1, b, h⟩; exact ⟨h1, b, .inr h⟩
        have e2 : RemL ((c, false) :: (d, p) :: r) x y ↔ (x = d ∧ y = c) ∨ RemL ((d, p) :: r) x y := by
          unfold RemL
          constructor
          · rintro ⟨h1, b, ⟨h2, h3⟩ | h⟩
            · injection h2 with h2 _; injection h3 with h3 _; exact .inl ⟨h3, h2⟩
            · exact .inr ⟨h1, b, h⟩
          · rintro (⟨rfl, rfl⟩ | ⟨h1, b, h⟩)
            · exact ⟨fun z => hcd z.symm, p, .inl ⟨rfl, rfl⟩⟩
            · exact ⟨h1, b, .inr h⟩
        rw [e1, e2, if_neg (by simp), if_pos hcd]
        simp only [List.mem_filter, decide_eq_true_eq, ne_eq, Prod.mk.injEq, not_or]
        constructor
        · rintro (h | ⟨⟨h1, h2⟩, h3⟩)
          · exact .inl h
          · exact .inr ⟨h1, h2, h3⟩
        · rintro (h | ⟨h1, h2, h3⟩)
          · exact .inl h
          · exact .inr ⟨⟨h1, h2⟩, h3⟩
/-- where the search can go -/
def Nx (nb : Nat → List Nat) (closed : List Nat) (pre : Nat → Option (Option Nat)) (s t : Sp2) : Prop :=
  match s.2 with
  | true => (t.2 = false ∧ t.1 ∈ nb s.1 ∧ t.1 ∉ closed) ∨ (t = (s.1, false) ∧ pre s.1 ≠ none)
  | false => match pre s.1 with
    | none => t = (s.1, true)
    | some none => False
    | some (some b) => t = (b, true)
/-- the kept ways, as links -/
structure Kept (pre : Nat → Option (Option Nat)) (L : List (Nat × Nat)) (E : List Nat) : Prop where
  inl : ∀ x y, (x, y) ∈ L ↔ pre y = some (some x)
  fn : ∀ x y z, (x, y) ∈ L → (x, z) ∈ L → y = z
  src : ∀ x y, (x, y) ∈ L → pre x ≠ none
  out : ∀ x, pre x ≠ none → x ∈ E ∨ ∃ y, (x, y) ∈ L
structure Aug (nb : Nat → List Nat) (closed : List Nat) (pre : Nat → Option (Option Nat)) (P : List Sp2) (a g : Nat) : Prop where
  nd : P.Nodup
  st : ∀ u v, Cn P u v → Nx nb closed pre u v
  hd : P.head? = some (a, false)
  la : P.getLast? = some (g, true)
section
variable {nb : Nat → List Nat} {closed : List Nat} {pre : Nat → Option (Option Nat)} {L : List (Nat × Nat)} {E : List Nat} {P : List Sp2} {a g : Nat}
theorem Aug.out (A : Aug nb closed pre P a g) : ∀ c v, Cn P (c, false) v → v.2 = true := fun c v h => by
  have := A.st _ _ h
  unfold Nx at this
  dsimp only at this
  split at this
  · rw [this]
  · exact this.elim
  · rw [this]
/-- out of a used cell: it was come to from the next one -/
theorem Aug.used_out (K : Kept pre L E) (A : Aug nb closed pre P a g) {x : Nat} (hx : pre x ≠ none) (h : (x, true) ∈ P) : ∃ y, (x, y) ∈ L ∧ Cn P (y, false) (x, true) := by
  rcases cn_prev h with h | ⟨⟨c, o⟩, h⟩
  · rw [A.hd] at h; cases h
  · have hs := A.st _ _ h
    unfold Nx at hs
    cases o with
    | true =>
      dsimp only at hs
      rcases hs with ⟨h1, _⟩ | ⟨h1, _⟩
      · cases h1
      · cases h1
    | false =>
      dsimp only at hs
      split at hs
      · rename_i hp; cases hs; exact absurd hp hx
      · exact hs.elim
      · rename_i b hp; cases hs; exact ⟨c, (K.inl x c).mpr hp, h⟩
/-- into a cell: the search went on -/
theorem Aug.into (A : Aug nb closed pre P a g) {y : Nat} (h : (y, false) ∈ P) : (pre y = none ∧ Cn P (y, false) (y, true)) ∨ ∃ b, pre y = some (some b) ∧ Cn P (y, false) (b, true) := by
  rcases cn_next h with h | ⟨v, h⟩
  · rw [A.la] at h; cases h
  · have hs := A.st _ _ h
    unfold Nx at hs
    dsimp only at hs
    split at hs
    · rename_i hp; subst hs; exact .inl ⟨hp, h⟩
    · exact hs.elim
    · rename_i b hp; subst hs; exact .inr ⟨b, hp, h⟩
def NewL (L : List (Nat × Nat)) (P : List Sp2) (x y : Nat) : Prop := AddL P x y ∨ ((x, y) ∈ L ∧ ¬ RemL P x y)
variable (hnb : ∀ c, c ∉ nb c) (K : Kept pre L E) (hpp : ∀ x, pre x ≠ some (some x))
include K hpp
theorem Aug.fn (A : Aug nb closed pre P a g) {x y z : Nat} (h1 : NewL L P x y) (h2 : NewL L P x z) : y = z := by
  have mix : ∀ {y z}, AddL P x y → (x, z) ∈ L → ¬ RemL P x z → False := by
    rintro y z ⟨_, b, h1⟩ h2 h3
    obtain ⟨w, hw, hc⟩ := A.used_out K (K.src _ _ h2) (cn_mem h1).1
    obtain rfl := K.fn _ _ _ hw h2
    exact h3 ⟨fun e => hpp w (by have := (K.inl x w).mp h2; rw [e] at this; exact this), true, hc⟩
  rcases h1 with h1 | ⟨h1, n1⟩
  · rcases h2 with h2 | ⟨h2, n2⟩
    · obtain ⟨_, b, c1⟩ := h1
      obtain ⟨_, b', c2⟩ := h2
      have := cn_fun A.nd c1 c2
      injection this
    · exact (mix h1 h2 n2).elim
  · rcases h2 with h2 | ⟨h2, n2⟩
    · exact (mix h2 h1 n1).elim
    · exact K.fn _ _ _ h1 h2
theorem Aug.inj (A : Aug nb closed pre P a g) {x y z : Nat} (h1 : NewL L P x z) (h2 : NewL L P y z) : x = y := by
  have fls : ∀ {x b}, AddL P x z → Cn P (x, true) (z, b) → b = false := by
    intro x b h hc
    have hs := A.st _ _ hc
    unfold Nx at hs
    dsimp only at hs
    rcases hs with ⟨h1, _⟩ | ⟨h1, _⟩
    · exact h1
    · injection h1
  have mix : ∀ {x y}, AddL P x z → (y, z) ∈ L → ¬ RemL P y z → False := by
    rintro x y h1 h2 h3
    obtain ⟨hne, b, hc⟩ := h1
    obtain rfl := fls ⟨hne, b, hc⟩ hc
    have hz : (z, false) ∈ P := List.mem_of_mem_tail (cn_mem hc).2
    have hp := (K.inl y z).mp h2
    rcases A.into hz with ⟨hp2, _⟩ | ⟨b, hp2, hc2⟩
    · rw [hp] at hp2; cases hp2
    · rw [hp] at hp2; cases hp2
      exact h3 ⟨fun e => hpp z (by rw [e] at hp; exact hp), true, hc2⟩
  rcases h1 with h1 | ⟨h1, n1⟩
  · rcases h2 with h2 | ⟨h2, n2⟩
    · obtain ⟨d1, b, c1⟩ := h1
      obtain ⟨d2, b', c2⟩ := h2
      obtain rfl := fls ⟨d1, b, c1⟩ c1
      obtain rfl := fls ⟨d2, b', c2⟩ c2
      have := cn_inj A.nd c1 c2
      injection this
    · exact (mix h1 h2 n2).elim
  · rcases h2 with h2 | ⟨h2, n2⟩
    · exact (mix h2 h1 n1).elim
    · have e1 := (K.inl _ _).mp h1
      have e2 := (K.inl _ _).mp h2
      rw [e1] at e2; injection e2 with e2; injection e2
/-- nothing leads to the first cells -/
theorem Aug.first_none (A : Aug nb closed pre P a g) {x y : Nat} (hy : pre y = some none ∨ y = a) : ¬ NewL L P x y := by
  intro h
  rcases h with ⟨hne, b, hc⟩ | ⟨h, hr⟩
  · have hb : b = false := by
      have hs := A.st _ _ hc
      unfold Nx at hs
      dsimp only at hs
      rcases hs with ⟨h1, _⟩ | ⟨h1, _⟩
      · exact h1
      · injection h1
    subst hb
    rcases hy with hy | rfl
    · rcases A.into (List.mem_of_mem_tail (cn_mem hc).2) with ⟨hp, _⟩ | ⟨b, hp, _⟩
      · rw [hy] at hp; cases hp
      · rw [hy] at hp; cases hp
    · exact cn_head A.nd A.hd hc
  · have hp := (K.inl _ _).mp h
    rcases hy with hy | rfl
    · rw [hy] at hp; cases hp
    · have ha : (y, false) ∈ P := by
        have := A.hd
        cases P with
        | nil => cases this
        | cons s r => simp at this; subst this; exact List.mem_cons_self
      rcases A.into ha with ⟨hp2, _⟩ | ⟨b, hp2, hc⟩
      · rw [hp] at hp2; cases hp2
      · rw [hp] at hp2; cases hp2
        exact hr ⟨fun e => hpp y (by rw [e] at hp; exact hp), true, hc⟩
theorem Aug.new_first (A : Aug nb closed pre P a g) : pre a ≠ some none := by
  intro h
  have ha : (a, false) ∈ P := by
    have := A.hd
    cases P with
    | nil => cases this
    | cons s r => simp at this; subst this; exact List.mem_cons_self
  rcases A.into ha with ⟨hp, _⟩ | ⟨b, hp, _⟩
  · rw [h] at hp; cases hp
  · rw [h] at hp; cases hp
include hnb
/-- what is come into is left again, or is an end -/
theorem Aug.goes_on (A : Aug nb closed pre P a g) {y : Nat} (hy : (∃ x, NewL L P x y) ∨ pre y = some none ∨ y = a) : y ∈ E ∨ y = g ∨ ∃ z, NewL L P y z := by
  have ha : (a, false) ∈ P := by
    have := A.hd
    cases P with
    | nil => cases this
    | cons s r => simp at this; subst this; exact List.mem_cons_self
  -- out of a cell, with no step back into it
  have outs : (y, true) ∈ P → ¬ Cn P (y, true) (y, false) → y = g ∨ ∃ z, NewL L P y z := by
    intro h hb
    rcases cn_next h with h | ⟨⟨o, b⟩, hc⟩
    · rw [A.la] at h; cases h; exact .inl rfl
    · have hs := A.st _ _ hc
      unfold Nx at hs
      dsimp only at hs
      rcases hs with ⟨h1, h2, h3⟩ | ⟨h1, h2⟩
      · exact .inr ⟨o, .inl ⟨fun e => hnb y (by rw [← e] at h2; exact h2), b, hc⟩⟩
      · rw [h1] at hc; exact absurd hc hb
  by_cases hu : pre y = none
  · -- not used
    have hin : (y, false) ∈ P := by
      rcases hy with ⟨x, ⟨hne, b, hc⟩ | ⟨h, _⟩⟩ | h | rfl
      · have hs := A.st _ _ hc
        unfold Nx at hs
        dsimp only at hs
        rcases hs with ⟨h1, _⟩ | ⟨h1, _⟩
        · subst h1; exact List.mem_of_mem_tail (cn_mem hc).2
        · cases h1; exact absurd rfl hne
      · have := (K.inl _ _).mp h; rw [hu] at this; cases this
      · rw [hu] at h; cases h
      · exact ha
    rcases A.into hin with ⟨_, hc⟩ | ⟨b, hp, _⟩
    · refine .inr (outs (List.mem_of_mem_tail (cn_mem hc).2) fun hb => ?_)
      have hs := A.st _ _ hb
      unfold Nx at hs
      dsimp only at hs
      rcases hs with ⟨_, h2, _⟩ | ⟨_, h2⟩
      · exact hnb y h2
      · exact h2 hu
    · rw [hu] at hp; cases hp
  · rcases K.out y hu with h | ⟨w, hw⟩
    · exact .inl h
    · by_cases hr : RemL P y w
      · obtain ⟨hne, b, hc⟩ := hr
        have hb := A.out _ _ hc
        dsimp only at hb
        subst hb
        refine .inr (outs (List.mem_of_mem_tail (cn_mem hc).2) fun hb => ?_)
        -- stepped back: then nothing leads to y
        have hin : (y, false) ∈ P := List.mem_of_mem_tail (cn_mem hb).2
        rcases A.into hin with ⟨hp, _⟩ | ⟨b, hp, hc2⟩
        · exact hu hp
        · rcases hy with ⟨x, ⟨hne2, b2, hc3⟩ | ⟨h, hr2⟩⟩ | h | rfl
          · have hs := A.st _ _ hc3
            unfold Nx at hs
            dsimp only at hs
            have hb2 : b2 = false := by
              rcases hs with ⟨h1, _⟩ | ⟨h1, _⟩
              · exact h1
              · injection h1
            subst hb2
            have := cn_inj A.nd hb hc3
            injection this with e
            exact hne2 e.symm
          · have hp2 := (K.inl _ _).mp h
            rw [hp] at hp2; cases hp2
            exact hr2 ⟨fun e => hpp y (by rw [e] at hp; exact hp), true, hc2⟩
          · rw [hp] at h; cases h
          · exact cn_head A.nd A.hd hb
      · exact .inr (.inr ⟨w, .inr ⟨hw, hr⟩⟩)
end
end Law
namespace Law
/-! ## following links -/
def stepM (aft : Nat → Option Nat) (m : List Nat) : List Nat := match m.getLast? with
  | none => m
  | some l => match aft l with
    | none => m
    | some y => if y ∈ m then m else m ++ [y]
def metS (aft : Nat → Option Nat) (c : Nat) : Nat → List Nat
  | 0 => [c]
  | k + 1 => stepM aft (metS aft c k)
structure Chain (aft : Nat → Option Nat) (c : Nat) (m : List Nat) : Prop where
  hd : m[0]? = some c
  nd : m.Nodup
  lk : ∀ (i x y : Nat), m[i]? = some x → m[i + 1]? = some y → aft x = some y
theorem last_at {α : Type} {m : List α} {l : α} (h : m.getLast? = some l) : m[m.length - 1]? = some l := by
  rw [List.getLast?_eq_getElem?] at h; exact h
theorem Chain.step {aft : Nat → Option Nat} {c : Nat} {m : List Nat} (C : Chain aft c m) : Chain aft c (stepM aft m) := by
  unfold stepM
  split
  · exact C
  · rename_i l hl
    have hl2 := last_at hl
    have hlen : m.length ≠ 0 := fun z => by rw [List.length_eq_zero_iff.mp z] at hl; cases hl
    split
    · exact C
    · rename_i y hy
      split
      · exact C
      · rename_i hn
        refine ⟨?_, ?_, fun i x z h1 h2 => ?_⟩
        · rw [List.getElem?_append_left (by omega)]; exact C.hd
        · rw [List.nodup_append]
          refine ⟨C.nd, by simp, fun a ha b hb => ?_⟩
          obtain rfl := List.mem_singleton.mp hb
          exact fun z => hn (z ▸ ha)
        · by_cases hi : i + 1 < m.length
          · rw [List.getElem?_append_left hi] at h2
            rw [List.getElem?_append_left (by omega)] at h1
            exact C.lk i x z h1 h2
          · have hi2 : i + 1 < (m ++ [y]).length := (List.getElem?_eq_some_iff.mp h2).1
            simp at hi2
            have hi3 : i = m.length - 1 := by omega
            subst hi3
            rw [List.getElem?_append_left (by omega), hl2] at h1
            rw [show m.length - 1 + 1 = m.length by omega, List.getElem?_append_right (by omega)] at h2
            simp at h2
            cases h1; subst h2; exact hy
theorem metS_chain (aft : Nat → Option Nat) (c : Nat) : ∀ k, Chain aft c (metS aft c k)
  | 0 => ⟨rfl, by simp [metS], fun i x y h1 h2 => by
      have := (List.getElem?_eq_some_iff.mp h2).1
      simp [metS] at this⟩
  | k + 1 => (metS_chain aft c k).step
theorem Chain.ne {aft : Nat → Option Nat} {c : Nat} {m : List Nat} (C : Chain aft c m) : m ≠ [] := fun z => by
  have := C.hd; rw [z] at this; cases this
section
variable {aft : Nat → Option Nat} (inj : ∀ x y z, aft x = some z → aft y = some z → x = y)
include inj
/-- the last one leads nowhere back -/
theorem Chain.fresh {c l y : Nat} {m : List Nat} (C : Chain aft c m) (hc : ∀ x, aft x ≠ some c) (hl : m.getLast? = some l) (hy : aft l = some y) : y ∉ m := by
  intro h
  obtain ⟨j, hj, e⟩ := List.getElem_of_mem h
  cases j with
  | zero =>
    have := C.hd
    rw [List.getElem?_eq_getElem hj, e] at this
    cases this
    exact hc l hy
  | succ j =>
    have h1 := List.getElem?_eq_getElem (show j < m.length by omega)
    have h2 := C.lk j _ y h1 (by rw [List.getElem?_eq_getElem hj, e])
    have h3 := inj _ _ _ h2 hy
    have hl2 := last_at hl
    rw [← h3] at hl2
    have h4 := (List.getElem?_inj (by omega) C.nd).mp (h1.trans hl2.symm)
    omega
theorem Chain.stops {n c : Nat} (hc : ∀ x, aft x ≠ some c) (lt : ∀ x y, aft x = some y → y < n) (hcn : c < n) : ∀ k, (∃ l, (metS aft c k).getLast? = some l ∧ aft l = none ∧ ∀ j, metS aft c (k + j) = metS aft c k) ∨ (metS aft c k).length = k + 1
  | 0 => .inr rfl
  | k + 1 => by
    have C := metS_chain aft c k
    obtain ⟨l, hl⟩ : ∃ l, (metS aft c k).getLast? = some l := ⟨_, List.getLast?_eq_getLast C.ne⟩
    cases ha : aft l with
    | none =>
      have stay : ∀ j, metS aft c (k + j) = metS aft c k := by
        intro j
        induction j with
        | zero => rfl
        | succ j ih =>
          show stepM aft (metS aft c (k + j)) = _
          rw [ih]; unfold stepM; rw [hl]; dsimp only; rw [ha]
      refine .inl ⟨l, by rw [stay 1]; exact hl, ha, fun j => ?_⟩
      rw [stay 1, show k + 1 + j = k + (1 + j) by omega, stay]
    | some y =>
      rcases Chain.stops hc lt hcn k with ⟨l', h1, h2, _⟩ | h
      · rw [hl] at h1; cases h1; rw [ha] at h2; cases h2
      · refine .inr ?_
        have hf := C.fresh inj hc hl ha
        show (stepM aft (metS aft c k)).length = _
        unfold stepM; rw [hl]; dsimp only; rw [ha]; dsimp only; rw [if_neg hf]
        simp [h]
end
theorem nd_small : ∀ (N : Nat) (l : List Nat), l.Nodup → (∀ x ∈ l, x < N) → l.length ≤ N
  | 0, l, _, h => by
    cases l with
    | nil => simp
    | cons a l => exact absurd (h a List.mem_cons_self) (by omega)
  | N + 1, l, hn, h => by
    by_cases hm : N ∈ l
    · have h1 := nd_small N (l.erase N) (hn.erase N) fun x hx => by
        obtain ⟨h2, h3⟩ := (List.Nodup.mem_erase_iff hn).mp hx
        have := h x h3
        omega
      rw [List.length_erase_of_mem hm] at h1
      omega
    · have h1 := nd_small N l hn fun x hx => by
        have := h x hx
        have : x ≠ N := fun z => hm (z ▸ hx)
        omega
      omega
theorem metS_lt {aft : Nat → Option Nat} {c n : Nat} (lt : ∀ x y, aft x = some y → y < n) (hcn : c < n) : ∀ k, ∀ x ∈ metS aft c k, x < n
  | 0, x, h => by simp [metS] at h; omega
  | k + 1, x, h => by
    have ih := metS_lt lt hcn k
    change x ∈ stepM aft (metS aft c k) at h
    unfold stepM at h
    split at h
    · exact ih x h
    · split at h
      · exact ih x h
      · rename_i y hy
        split at h
        · exact ih x h
        · rcases List.mem_append.mp h with h | h
          · exact ih x h
          · obtain rfl := List.mem_singleton.mp h; exact lt _ _ hy
/-- the whole chain -/
theorem metS_end {aft : Nat → Option Nat} (inj : ∀ x y z, aft x = some z → aft y = some z → x = y) {n c : Nat} (hc : ∀ x, aft x ≠ some c) (lt : ∀ x y, aft x = some y → y < n) (hcn : c < n) :
    ∃ l, (metS aft c n).getLast? = some l ∧ aft l = none ∧ ∀ j, metS aft c (n + j) = metS aft c n := by
  rcases Chain.stops inj hc lt hcn n with h | h
  · exact h
  · have h1 := nd_small n (metS aft c n) (metS_chain aft c n).nd (metS_lt lt hcn n)
    omega
theorem metS_len {aft : Nat → Option Nat} {n c : Nat} (lt : ∀ x y, aft x = some y → y < n) (hcn : c < n) (k : Nat) : (metS aft c k).length ≤ n :=
  nd_small n _ (metS_chain aft c k).nd (metS_lt lt hcn k)
/-- two chains have no cell in common -/
theorem Chain.apart {aft : Nat → Option Nat} (inj : ∀ x y z, aft x = some z → aft y = some z → x = y) {c d : Nat} {m k : List Nat} (C : Chain aft c m) (D : Chain aft d k) (hc : ∀ x, aft x ≠ some c) (hd : ∀ x, aft x ≠ some d) (hne : c ≠ d) : ∀ (i j z : Nat), m[i]? = some z → k[j]? = some z → False
  | 0, 0, z, h1, h2 => by
    have e1 := C.hd; have e2 := D.hd
    rw [h1] at e1; rw [h2] at e2; cases e1; cases e2; exact hne rfl
  | 0, j + 1, z, h1, h2 => by
    have e1 := C.hd
    rw [h1] at e1; cases e1
    have hj := (List.getElem?_eq_some_iff.mp h2).1
    exact hc _ (D.lk j _ _ (List.getElem?_eq_getElem (by omega)) h2)
  | i + 1, 0, z, h1, h2 => by
    have e1 := D.hd
    rw [h2] at e1; cases e1
    have hj := (List.getElem?_eq_some_iff.mp h1).1
    exact hd _ (C.lk i _ _ (List.getElem?_eq_getElem (by omega)) h1)
  | i + 1, j + 1, z, h1, h2 => by
    have hi := (List.getElem?_eq_some_iff.mp h1).1
    have hj := (List.getElem?_eq_some_iff.mp h2).1
    have q1 := List.getElem?_eq_getElem (show i < m.length by omega)
    have q2 := List.getElem?_eq_getElem (show j < k.length by omega)
    have a1 := C.lk i _ _ q1 h1
    have a2 := D.lk j _ _ q2 h2
    have e := inj _ _ _ a1 a2
    rw [← e] at q2
    exact Chain.apart inj C D hc hd hne i j _ q1 q2
/-! ## ways that are apart -/
structure WOk (nb : Nat → List Nat) (n : Nat) (closed goals : List Nat) (ws : List (List Nat)) : Prop where
  ne : ∀ w ∈ ws, w ≠ []
  nd : ws.flatten.Nodup
  lk : ∀ w ∈ ws, ∀ (i x y : Nat), w[i]? = some x → w[i + 1]? = some y → y ∈ nb x
  op : ∀ w ∈ ws, ∀ c ∈ w, c ∉ closed ∧ c < n
  en : ∀ w ∈ ws, ∀ z, w.getLast? = some z → z ∈ goals
theorem apart_flat : ∀ (ms : List (List Nat)), (∀ m ∈ ms, m.Nodup) → ms.Pairwise (fun a b => ∀ z ∈ a, z ∉ b) → ms.flatten.Nodup
  | [], _, _ => by simp
  | m :: ms, h1, h2 => by
    rw [List.flatten_cons, List.nodup_append]
    rw [List.pairwise_cons] at h2
    refine ⟨h1 m List.mem_cons_self, apart_flat ms (fun k hk => h1 k (List.mem_cons_of_mem _ hk)) h2.2, fun a ha b hb e => ?_⟩
    subst e
    obtain ⟨k, hk, hb⟩ := List.mem_flatten.mp hb
    exact h2.1 k hk a ha hb
/-- the new ways, from the links behind a path -/
theorem new_ok {nb : Nat → List Nat} {n : Nat} {closed goals E starts : List Nat} {pre : Nat → Option (Option Nat)} {L : List (Nat × Nat)} {P : List Sp2} {a g : Nat} {aft : Nat → Option Nat} (hnb : ∀ c, c ∉ nb c) (K : Kept pre L E) (hpp : ∀ x, pre x ≠ some (some x)) (A : Aug nb closed pre P a g)
    (hE : ∀ x ∈ E, x ∈ goals) (hg : g ∈ goals) (haft : ∀ x y, aft x = some y ↔ NewL L P x y) (hL : ∀ x y, (x, y) ∈ L → y ∈ nb x ∧ y ∉ closed) (hlt : ∀ x y, y ∈ nb x → y < n)
    (hs : ∀ c ∈ starts, pre c = some none) (hso : ∀ c ∈ starts, c ∉ closed ∧ c < n) (ha : a ∉ closed ∧ a < n) (hnd : starts.Nodup) :
    WOk nb n closed goals ((starts ++ [a]).map fun c => metS aft c n) := by
  have inj : ∀ x y z, aft x = some z → aft y = some z → x = y := fun x y z h1 h2 => A.inj K hpp ((haft _ _).mp h1) ((haft _ _).mp h2)
  have adj : ∀ x y, aft x = some y → y ∈ nb x ∧ y ∉ closed := fun x y h => by
    rcases (haft _ _).mp h with ⟨hne, b, hc⟩ | ⟨h, _⟩
    · have hst := A.st _ _ hc
      unfold Nx at hst
      dsimp only at hst
      rcases hst with ⟨h1, h2, h3⟩ | ⟨h1, _⟩
      · exact ⟨h2, h3⟩
      · cases h1; exact absurd rfl hne
    · exact hL _ _ h
  have lt : ∀ x y, aft x = some y → y < n := fun x y h => hlt _ _ (adj x y h).1
  have first : ∀ c ∈ starts ++ [a], (pre c = some none ∨ c = a) ∧ c ∉ closed ∧ c < n := fun c hc => by
    rcases List.mem_append.mp hc with hc | hc
    · exact ⟨.inl (hs c hc), hso c hc⟩
    · obtain rfl := List.mem_singleton.mp hc
      exact ⟨.inr rfl, ha⟩
  have none_in : ∀ c ∈ starts ++ [a], ∀ x, aft x ≠ some c := fun c hc x h => A.first_none K hpp (first c hc).1 ((haft _ _).mp h)
  have nda : (starts ++ [a]).Nodup := by
    rw [List.nodup_append]
    refine ⟨hnd, by simp, fun x hx y hy e => ?_⟩
    obtain rfl := List.mem_singleton.mp hy
    subst e
    exact A.new_first K hpp (hs x hx)
  refine ⟨fun w hw => ?_, ?_, fun w hw i x y h1 h2 => ?_, fun w hw c hc => ?_, fun w hw z hz => ?_⟩
  · obtain ⟨c, hc, rfl⟩ := List.mem_map.mp hw
    exact (metS_chain aft c n).ne
  · refine apart_flat _ (fun m hm => ?_) ?_
    · obtain ⟨c, hc, rfl⟩ := List.mem_map.mp hm
      exact (metS_chain aft c n).nd
    · rw [List.pairwise_map]
      refine List.Pairwise.imp_of_mem ?_ nda
      intro c d hc hd hne z hz1 hz2
      obtain ⟨i, hi, e1⟩ := List.getElem_of_mem hz1
      obtain ⟨j, hj, e2⟩ := List.getElem_of_mem hz2
      exact Chain.apart inj (metS_chain aft c n) (metS_chain aft d n) (none_in c hc) (none_in d hd) hne i j z (by rw [List.getElem?_eq_getElem hi, e1]) (by rw [List.getElem?_eq_getElem hj, e2])
  · obtain ⟨c, hc, rfl⟩ := List.mem_map.mp hw
    exact (adj x y ((metS_chain aft c n).lk i x y h1 h2)).1
  · obtain ⟨d, hd, rfl⟩ := List.mem_map.mp hw
    obtain ⟨i, hi, e⟩ := List.getElem_of_mem hc
    have he := List.getElem?_eq_getElem hi
    rw [e] at he
    cases i with
    | zero =>
      have := (metS_chain aft d n).hd
      rw [he] at this; cases this
      exact (first c hd).2
    | succ i =>
      have h2 := (metS_chain aft d n).lk i _ c (List.getElem?_eq_getElem (by omega)) he
      exact ⟨(adj _ _ h2).2, lt _ _ h2⟩
  · obtain ⟨c, hc, rfl⟩ := List.mem_map.mp hw
    obtain ⟨l, h1, h2, _⟩ := metS_end inj (none_in c hc) lt (first c hc).2.2
    rw [hz] at h1; cases h1
    have hin : (∃ x, NewL L P x z) ∨ pre z = some none ∨ z = a := by
      have hl := last_at hz
      have hlen := (List.getElem?_eq_some_iff.mp hl).1
      cases hk : (metS aft c n).length - 1 with
      | zero =>
        rw [hk, (metS_chain aft c n).hd] at hl; cases hl
        exact .inr (first z hc).1
      | succ k =>
        rw [hk] at hl
        exact .inl ⟨_, (haft _ _).mp ((metS_chain aft c n).lk k _ z (List.getElem?_eq_getElem (by omega)) hl)⟩
    rcases A.goes_on hnb K hpp hin with h | rfl | ⟨y, hy⟩
    · exact hE z h
    · exact hg
    · rw [(haft _ _).mpr hy] at h2; cases h2
theorem new_heads {aft : Nat → Option Nat} {n : Nat} (starts : List Nat) : ∀ (i : Nat) (c : Nat), starts[i]? = some c → ∃ w, (starts.map fun c => metS aft c n)[i]? = some w ∧ w[0]? = some c := fun i c h => ⟨_, by rw [List.getElem?_map, h]; rfl, (metS_chain aft c n).hd⟩
end Law
namespace Law
/-! ## the table of the cells behind, and the links -/
theorem look_put (T : Tb) (c x : Nat) (b : Option Nat) : lookT (putT T c b) x = if x = c then some b else lookT T x := by
  unfold putT
  by_cases h : T.any (fun p => p.1 == c) = true
  · rw [if_pos h]
    have : ∀ T : Tb, lookT (T.map fun p => if p.1 == c then (p.1, b) else p) x = if x = c then (if T.any (fun p => p.1 == c) = true then some b else none) else lookT T x := by
      intro T
      induction T with
      | nil => simp [lookT]
      | cons p T ih =>
        unfold lookT at *
        simp only [List.map_cons, List.find?_cons, List.any_cons]
        by_cases hp : p.1 = c
        · by_cases hx : x = c
          · subst hx; simp [hp]
          · have e1 : (c == x) = false := beq_eq_false_iff_ne.mpr (Ne.symm hx)
            simp only [hp, beq_self_eq_true, if_true, e1]
            rw [ih, if_neg hx, if_neg hx]
        · have e0 : (p.1 == c) = false := beq_eq_false_iff_ne.mpr hp
          simp only [e0, Bool.false_eq_true, if_false, Bool.false_or]
          by_cases hx : x = c
          · subst hx
            rw [e0]
            exact ih
          · by_cases hpx : p.1 = x
            · subst hpx; simp [hp]
            · have e2 : (p.1 == x) = false := beq_eq_false_iff_ne.mpr hpx
              rw [e2]; exact ih
    rw [this T, h]; simp
  · rw [if_neg h]
    unfold lookT
    rw [List.find?_append]
    by_cases hx : x = c
    · subst hx
      have h0 : T.find? (fun p => p.1 == x) = none := by
        rw [List.find?_eq_none]
        intro p hp hq
        exact h (List.any_eq_true.mpr ⟨p, hp, hq⟩)
      rw [h0]; simp
    · have e : (c == x) = false := beq_eq_false_iff_ne.mpr (Ne.symm hx)
      rw [if_neg hx]
      cases T.find? (fun p => p.1 == x) <;> simp [e]
theorem ahW_out (x : Nat) : ∀ (w : List Nat) (s : Tb × Option Nat), x ∉ w → lookT (w.foldl stT s).1 x = lookT s.1 x
  | [], s, _ => rfl
  | c :: w, s, h => by
    rw [List.foldl_cons, ahW_out x w _ fun z => h (List.mem_cons_of_mem _ z)]
    show lookT (putT s.1 c s.2) x = _
    rw [look_put, if_neg fun (z : x = c) => h (z ▸ List.mem_cons_self)]
theorem ahW_in : ∀ (w : List Nat) (s : Tb × Option Nat), w.Nodup → ∀ (i x : Nat), w[i]? = some x → lookT (w.foldl stT s).1 x = some (if i = 0 then s.2 else w[i - 1]?)
  | [], s, _, i, x, h => by cases h
  | c :: w, s, hn, i, x, h => by
    obtain ⟨h1, h2⟩ := List.nodup_cons.mp hn
    rw [List.foldl_cons]
    cases i with
    | zero =>
      simp at h; subst h
      rw [ahW_out _ w _ h1]
      show lookT (putT s.1 c s.2) c = _
      rw [look_put]; simp
    | succ i =>
      simp at h
      rw [ahW_in w _ h2 i x h]
      cases i with
      | zero => simp [stT]
      | succ i => simp
theorem ahT_out (x : Nat) : ∀ (ws : List (List Nat)) (T : Tb), x ∉ ws.flatten → lookT (ws.foldl (fun T w => (ahW w T).1) T) x = lookT T x
  | [], T, _ => rfl
  | w :: ws, T, h => by
    rw [List.flatten_cons, List.mem_append, not_or] at h
    rw [List.foldl_cons, ahT_out x ws _ h.2]
    exact ahW_out x w _ h.1
theorem ahT_in : ∀ (ws : List (List Nat)) (T : Tb), ws.flatten.Nodup → ∀ w ∈ ws, ∀ (i x : Nat), w[i]? = some x → lookT (ws.foldl (fun T w => (ahW w T).1) T) x = some (if i = 0 then none else w[i - 1]?)
  | [], _, _, _, hw, _, _, _ => by cases hw
  | v :: ws, T, hn, w, hw, i, x, h => by
    rw [List.flatten_cons, List.nodup_append] at hn
    rw [List.foldl_cons]
    rcases List.mem_cons.mp hw with rfl | hw
    · have hx := List.mem_of_getElem? h
      rw [ahT_out x ws _ fun z => hn.2.2 x hx x z rfl]
      exact ahW_in w (T, none) hn.1 i x h
    · exact ahT_in ws _ hn.2.1 w hw i x h
def linksOf (ws : List (List Nat)) : List (Nat × Nat) := ws.flatMap fun w => w.zip w.tail
theorem links_mem (ws : List (List Nat)) (x y : Nat) : (x, y) ∈ linksOf ws ↔ ∃ w ∈ ws, ∃ i : Nat, w[i]? = some x ∧ w[i + 1]? = some y := by
  unfold linksOf
  rw [List.mem_flatMap]
  constructor
  · rintro ⟨w, hw, h⟩
    obtain ⟨i, hi, e⟩ := List.getElem_of_mem h
    have he := List.getElem?_eq_getElem hi
    rw [e, List.getElem?_zip_eq_some] at he
    exact ⟨w, hw, i, he.1, by rw [← List.getElem?_tail]; exact he.2⟩
  · rintro ⟨w, hw, i, h1, h2⟩
    refine ⟨w, hw, List.mem_of_getElem? (i := i) ?_⟩
    rw [List.getElem?_zip_eq_some]
    exact ⟨h1, by rw [List.getElem?_tail]; exact h2⟩
/-- a cell stands once -/
theorem flat_once : ∀ (ws : List (List Nat)), ws.flatten.Nodup → ∀ w ∈ ws, ∀ v ∈ ws, ∀ x, x ∈ w → x ∈ v → w = v
  | [], _, _, hw, _, _, _, _, _ => by cases hw
  | u :: ws, hn, w, hw, v, hv, x, h1, h2 => by
    rw [List.flatten_cons, List.nodup_append] at hn
    rcases List.mem_cons.mp hw with rfl | hw2
    · rcases List.mem_cons.mp hv with rfl | hv2
      · rfl
      · exact absurd rfl (hn.2.2 x h1 x (List.mem_flatten.mpr ⟨v, hv2, h2⟩))
    · rcases List.mem_cons.mp hv with rfl | hv2
      · exact absurd rfl (hn.2.2 x h2 x (List.mem_flatten.mpr ⟨w, hw2, h1⟩))
      · exact flat_once ws hn.2.1 w hw2 v hv2 x h1 h2
theorem flat_nd {ws : List (List Nat)} (h : ws.flatten.Nodup) {w : List Nat} (hw : w ∈ ws) : w.Nodup := by
  induction ws with
  | nil => cases hw
  | cons u ws ih =>
    rw [List.flatten_cons, List.nodup_append] at h
    rcases List.mem_cons.mp hw with rfl | hw
    · exact h.1
    · exact ih h.2.1 hw
section
variable {nb : Nat → List Nat} {n : Nat} {closed goals : List Nat} {ws : List (List Nat)}
theorem WOk.look (W : WOk nb n closed goals ws) {w : List Nat} (hw : w ∈ ws) {i x : Nat} (h : w[i]? = some x) : lookT (ahT ws) x = some (if i = 0 then none else w[i - 1]?) := ahT_in ws [] W.nd w hw i x h
theorem WOk.look_none (W : WOk nb n closed goals ws) {x : Nat} : lookT (ahT ws) x = none ↔ x ∉ ws.flatten := by
  constructor
  · intro h hx
    obtain ⟨w, hw, hx⟩ := List.mem_flatten.mp hx
    obtain ⟨i, hi, e⟩ := List.getElem_of_mem hx
    rw [W.look hw (by rw [List.getElem?_eq_getElem hi, e])] at h; cases h
  · intro h
    exact ahT_out x ws [] h
theorem WOk.used (W : WOk nb n closed goals ws) {x : Nat} (h : lookT (ahT ws) x ≠ none) : ∃ w ∈ ws, ∃ i : Nat, w[i]? = some x := by
  by_cases hx : x ∈ ws.flatten
  · obtain ⟨w, hw, hx⟩ := List.mem_flatten.mp hx
    obtain ⟨i, hi, e⟩ := List.getElem_of_mem hx
    exact ⟨w, hw, i, by rw [List.getElem?_eq_getElem hi, e]⟩
  · exact absurd (W.look_none.mpr hx) h
theorem WOk.pred (W : WOk nb n closed goals ws) (x y : Nat) : (x, y) ∈ linksOf ws ↔ lookT (ahT ws) y = some (some x) := by
  rw [links_mem]
  constructor
  · rintro ⟨w, hw, i, h1, h2⟩
    rw [W.look hw h2]; simp [h1]
  · intro h
    obtain ⟨w, hw, i, hi⟩ := W.used (x := y) (by rw [h]; simp)
    rw [W.look hw hi] at h
    cases i with
    | zero => simp at h
    | succ i => simp at h; exact ⟨w, hw, i, h, hi⟩
theorem WOk.head (W : WOk nb n closed goals ws) (x : Nat) : lookT (ahT ws) x = some none ↔ ∃ w ∈ ws, w[0]? = some x := by
  constructor
  · intro h
    obtain ⟨w, hw, i, hi⟩ := W.used (x := x) (by rw [h]; simp)
    rw [W.look hw hi] at h
    cases i with
    | zero => exact ⟨w, hw, hi⟩
    | succ i =>
      simp at h
      have := (List.getElem?_eq_some_iff.mp hi).1
      omega
  · rintro ⟨w, hw, h⟩
    rw [W.look hw h]; rfl
theorem WOk.self (W : WOk nb n closed goals ws) (x : Nat) : lookT (ahT ws) x ≠ some (some x) := by
  intro h
  obtain ⟨w, hw, i, h1, h2⟩ := (links_mem _ _ _).mp ((W.pred x x).mpr h)
  have := (List.getElem?_inj (List.getElem?_eq_some_iff.mp h1).1 (flat_nd W.nd hw)).mp (h1.trans h2.symm)
  omega
theorem WOk.kept (W : WOk nb n closed goals ws) : Kept (lookT (ahT ws)) (linksOf ws) goals where
  inl := W.pred
  fn := fun x y z h1 h2 => by
    obtain ⟨w, hw, i, a1, a2⟩ := (links_mem _ _ _).mp h1
    obtain ⟨v, hv, j, b1, b2⟩ := (links_mem _ _ _).mp h2
    obtain rfl := flat_once ws W.nd w hw v hv x (List.mem_of_getElem? a1) (List.mem_of_getElem? b1)
    have := (List.getElem?_inj (List.getElem?_eq_some_iff.mp a1).1 (flat_nd W.nd hw)).mp (a1.trans b1.symm)
    subst this
    rw [a2] at b2; cases b2; rfl
  src := fun x y h => by
    obtain ⟨w, hw, i, a1, a2⟩ := (links_mem _ _ _).mp h
    rw [W.look hw a1]; simp
  out := fun x h => by
    obtain ⟨w, hw, i, hi⟩ := W.used h
    by_cases hl : i + 1 < w.length
    · exact .inr ⟨_, (links_mem _ _ _).mpr ⟨w, hw, i, hi, List.getElem?_eq_getElem hl⟩⟩
    · have := (List.getElem?_eq_some_iff.mp hi).1
      refine .inl (W.en w hw x ?_)
      rw [List.getLast?_eq_getElem?, show w.length - 1 = i by omega]; exact hi
theorem WOk.link (W : WOk nb n closed goals ws) {x y : Nat} (h : (x, y) ∈ linksOf ws) : y ∈ nb x ∧ y ∉ closed := by
  obtain ⟨w, hw, i, a1, a2⟩ := (links_mem _ _ _).mp h
  exact ⟨W.lk w hw i x y a1 a2, (W.op w hw y (List.mem_of_getElem? a2)).1⟩
theorem WOk.nil : WOk nb n closed goals [] := ⟨by simp, by simp, by simp, by simp, by simp⟩
/-- the first cells -/
def headsOf (ws : List (List Nat)) : List Nat := ws.map fun w => w[0]?.getD 0
theorem WOk.heads (W : WOk nb n closed goals ws) {c : Nat} (h : c ∈ headsOf ws) : ∃ w ∈ ws, w[0]? = some c := by
  obtain ⟨w, hw, rfl⟩ := List.mem_map.mp h
  have hne := W.ne w hw
  cases w with
  | nil => exact absurd rfl hne
  | cons x w => exact ⟨x :: w, hw, rfl⟩
theorem WOk.heads_nd (W : WOk nb n closed goals ws) : (headsOf ws).Nodup := by
  have h1 := W.ne
  have h2 := W.nd
  clear W
  unfold headsOf
  induction ws with
  | nil => simp
  | cons w ws ih =>
    rw [List.flatten_cons, List.nodup_append] at h2
    rw [List.map_cons, List.nodup_cons]
    refine ⟨fun h => ?_, ih (fun v hv => h1 v (List.mem_cons_of_mem _ hv)) h2.2.1⟩
    obtain ⟨v, hv, e⟩ := List.mem_map.mp h
    have hw := h1 w List.mem_cons_self
    have hv2 := h1 v (List.mem_cons_of_mem _ hv)
    cases w with
    | nil => exact hw rfl
    | cons x w =>
      cases v with
      | nil => exact hv2 rfl
      | cons y v =>
        simp at e
        exact h2.2.2 x List.mem_cons_self x (List.mem_flatten.mpr ⟨y :: v, hv, by rw [e]; exact List.mem_cons_self⟩) rfl
/-- all in one: ways that are kept, a path, the links' table -/
theorem WOk.more (W : WOk nb n closed goals ws) {P : List Sp2} {a g : Nat} {aft : Nat → Option Nat} (hnb : ∀ c, c ∉ nb c) (hlt : ∀ x y, y ∈ nb x → y < n) (A : Aug nb closed (lookT (ahT ws)) P a g) (hg : g ∈ goals) (ha : a ∉ closed ∧ a < n)
    (h1 : ∀ x y, aft x = some y → (x, y) ∈ chgs (linksOf ws) P) (h2 : ∀ x y, (x, y) ∈ chgs (linksOf ws) P → aft x ≠ none) : WOk nb n closed goals ((headsOf ws ++ [a]).map fun c => metS aft c n) ∧ a ∉ headsOf ws := by
  have hm : ∀ x y, (x, y) ∈ chgs (linksOf ws) P ↔ NewL (linksOf ws) P x y := fun x y => chgs_mem A.nd A.out
  refine ⟨new_ok (E := goals) hnb W.kept W.self A (fun _ h => h) hg (fun x y => ⟨fun h => (hm x y).mp (h1 x y h), fun h => ?_⟩) (fun x y h => W.link h) hlt (fun c hc => (W.head c).mpr (W.heads hc)) (fun c hc => ?_) ha W.heads_nd, fun h => ?_⟩
  · have h3 := h2 x y ((hm x y).mpr h)
    cases e : aft x with
    | none => exact absurd e h3
    | some z => rw [A.fn W.kept W.self ((hm x z).mp (h1 x z e)) h]
  · obtain ⟨w, hw, e⟩ := W.heads hc
    exact W.op w hw c (List.mem_of_getElem? e)
  · exact A.new_first W.kept W.self ((W.head a).mpr (W.heads h))
end
end Law
namespace Law
/-! ## what the search has found -/
structure Sch (f : Spt → List Spt) (m k : Nat) (st : StS) : Prop where
  len : st.2.length = st.1.length
  nd : st.1.Nodup
  par : ∀ i a : Nat, st.2[i]? = some (some a) → a < i ∧ a < k ∧ ∃ s t, st.1[a]? = some s ∧ st.1[i]? = some t ∧ t ∈ f s
  mono : ∀ i j a b : Nat, i ≤ j → st.2[i]? = some (some a) → st.2[j]? = some (some b) → a ≤ b
  non : ∀ i : Nat, st.2[i]? = some none ↔ i < m
theorem Sch.add {f : Spt → List Spt} {m k : Nat} {st : StS} {s t : Spt} (C : Sch f m (k + 1) st) (hs : st.1[k]? = some s) (ht : t ∈ f s) : Sch f m (k + 1) (addS k st t) ∧ (addS k st t).1[k]? = some s := by
  have hk := (List.getElem?_eq_some_iff.mp hs).1
  unfold addS
  split
  · exact ⟨C, hs⟩
  · rename_i hn
    have at1 : ∀ {i : Nat} {u : Spt}, st.1[i]? = some u → (st.1 ++ [t])[i]? = some u := fun {i u} h => by
      rw [List.getElem?_append_left (List.getElem?_eq_some_iff.mp h).1]; exact h
    have ml : m ≤ st.2.length := by
      by_cases h : m ≤ st.2.length
      · exact h
      · have := (C.non st.2.length).mpr (by omega)
        have := (List.getElem?_eq_some_iff.mp this).1
        omega
    refine ⟨⟨by simp [C.len], ?_, fun i a h => ?_, fun i j a b hij h1 h2 => ?_, fun i => ?_⟩, at1 hs⟩
    · rw [List.nodup_append]
      refine ⟨C.nd, by simp, fun a ha b hb => ?_⟩
      obtain rfl := List.mem_singleton.mp hb
      exact fun z => hn (z ▸ ha)
    · by_cases hi : i < st.2.length
      · dsimp only at h
        rw [List.getElem?_append_left hi] at h
        obtain ⟨h1, h2, u, v, h3, h4, h5⟩ := C.par i a h
        exact ⟨h1, h2, u, v, at1 h3, at1 h4, h5⟩
      · have hl := (List.getElem?_eq_some_iff.mp h).1
        simp at hl
        have e : i = st.2.length := by omega
        subst e
        dsimp only at h
        rw [List.getElem?_append_right (Nat.le_refl _)] at h
        simp at h
        subst h
        exact ⟨by rw [C.len]; exact hk, Nat.lt_succ_self _, s, t, at1 hs, by rw [C.len]; simp, ht⟩
    · dsimp only at h1 h2
      have hl := (List.getElem?_eq_some_iff.mp h2).1
      simp at hl
      by_cases hj : j < st.2.length
      · rw [List.getElem?_append_left hj] at h2
        rw [List.getElem?_append_left (by omega)] at h1
        exact C.mono i j a b hij h1 h2
      · have e : j = st.2.length := by omega
        subst e
        rw [List.getElem?_append_right (Nat.le_refl _)] at h2
        simp at h2
        subst h2
        by_cases hi : i < st.2.length
        · rw [List.getElem?_append_left hi] at h1
          have := (C.par i a h1).2.1
          omega
        · have e : i = st.2.length := by omega
          subst e
          rw [List.getElem?_append_right (Nat.le_refl _)] at h1
          simp at h1
          omega
    · dsimp only
      by_cases hi : i < st.2.length
      · rw [List.getElem?_append_left hi]; exact C.non i
      · constructor
        · intro h
          have hl := (List.getElem?_eq_some_iff.mp h).1
          simp at hl
          have e : i = st.2.length := by omega
          subst e
          rw [List.getElem?_append_right (Nat.le_refl _)] at h
          simp at h
        · intro h; omega
theorem Sch.fold {f : Spt → List Spt} {m k : Nat} {s : Spt} : ∀ (ts : List Spt) {st : StS}, Sch f m (k + 1) st → st.1[k]? = some s → (∀ t ∈ ts, t ∈ f s) → Sch f m (k + 1) (ts.foldl (addS k) st)
  | [], st, C, _, _ => C
  | t :: ts, st, C, hs, ht => by
    obtain ⟨h1, h2⟩ := C.add hs (ht t List.mem_cons_self)
    exact Sch.fold ts h1 h2 fun u hu => ht u (List.mem_cons_of_mem _ hu)
theorem Sch.up {f : Spt → List Spt} {m k : Nat} {st : StS} (C : Sch f m k st) : Sch f m (k + 1) st :=
  ⟨C.len, C.nd, fun i a h => let ⟨h1, h2, h3⟩ := C.par i a h; ⟨h1, by omega, h3⟩, C.mono, C.non⟩
theorem bfs_sch {f : Spt → List Spt} {st0 : StS} (h0 : st0.1.Nodup) (h1 : st0.2 = st0.1.map fun _ => none) : ∀ k, Sch f st0.1.length k (bfs f st0 k)
  | 0 => by
    show Sch f _ 0 st0
    refine ⟨by simp [h1], h0, fun i a h => ?_, fun i j a b _ h => ?_, fun i => ?_⟩
    · rw [h1, List.getElem?_map] at h; cases e : st0.1[i]? <;> rw [e] at h <;> simp at h
    · rw [h1, List.getElem?_map] at h; cases e : st0.1[i]? <;> rw [e] at h <;> simp at h
    · rw [h1, List.getElem?_map]
      constructor
      · intro h
        cases e : st0.1[i]? with
        | none => rw [e] at h; simp at h
        | some x => exact (List.getElem?_eq_some_iff.mp e).1
      · intro h; rw [List.getElem?_eq_getElem h]; rfl
  | k + 1 => by
    have C := (bfs_sch (f := f) h0 h1 k).up
    show Sch f _ (k + 1) (stepS f k (bfs f st0 k))
    unfold stepS
    split
    · exact C
    · rename_i s hs
      exact C.fold _ hs fun _ h => h
/-! ### growing -/
theorem addS_pre (k : Nat) (st : StS) (t : Spt) : ∃ xs, (addS k st t).1 = st.1 ++ xs := by
  unfold addS; split
  · exact ⟨[], by simp⟩
  · exact ⟨[t], rfl⟩
theorem fold_pre (k : Nat) : ∀ (ts : List Spt) (st : StS), ∃ xs, (ts.foldl (addS k) st).1 = st.1 ++ xs
  | [], st => ⟨[], by simp⟩
  | t :: ts, st => by
    obtain ⟨xs, h⟩ := addS_pre k st t
    obtain ⟨ys, h2⟩ := fold_pre k ts (addS k st t)
    exact ⟨xs ++ ys, by rw [List.foldl_cons, h2, h, List.append_assoc]⟩
theorem addS_has (k : Nat) (st : StS) (t : Spt) : t ∈ (addS k st t).1 := by
  unfold addS; split
  · assumption
  · simp
theorem fold_has (k : Nat) : ∀ (ts : List Spt) (st : StS), ∀ t ∈ ts, t ∈ (ts.foldl (addS k) st).1
  | [], _, _, h => by cases h
  | u :: ts, st, t, h => by
    rw [List.foldl_cons]
    rcases List.mem_cons.mp h with rfl | h
    · obtain ⟨xs, e⟩ := fold_pre k ts (addS k st t)
      rw [e]; exact List.mem_append_left _ (addS_has k st t)
    · exact fold_has k ts _ t h
theorem bfs_pre (f : Spt → List Spt) (st0 : StS) (k : Nat) : ∀ j, ∃ xs, (bfs f st0 (k + j)).1 = (bfs f st0 k).1 ++ xs
  | 0 => ⟨[], by simp⟩
  | j + 1 => by
    obtain ⟨xs, h⟩ := bfs_pre f st0 k j
    show ∃ xs, (stepS f (k + j) (bfs f st0 (k + j))).1 = _
    unfold stepS
    split
    · exact ⟨xs, h⟩
    · rename_i s hs
      obtain ⟨ys, h2⟩ := fold_pre (k + j) (f s) (bfs f st0 (k + j))
      exact ⟨xs ++ ys, by rw [h2, h, List.append_assoc]⟩
theorem bfs_st0 (f : Spt → List Spt) (st0 : StS) (k : Nat) : ∃ xs, (bfs f st0 k).1 = st0.1 ++ xs := by
  have := bfs_pre f st0 0 k
  rw [Nat.zero_add] at this
  exact this
/-- the search is over: whatever can be reached in one step is there -/
theorem bfs_closed {f : Spt → List Spt} {st0 : StS} {N : Nat} (h : (bfs f st0 N).1.length ≤ N) {s t : Spt} (hs : s ∈ (bfs f st0 N).1) (ht : t ∈ f s) : t ∈ (bfs f st0 N).1 := by
  obtain ⟨i, hi, e⟩ := List.getElem_of_mem hs
  have he := List.getElem?_eq_getElem hi
  rw [e] at he
  have hN : i < N := by omega
  by_cases h2 : (bfs f st0 i).1.length ≤ i
  · have := bfs_stop h2 (N - i)
    rw [show i + (N - i) = N by omega] at this
    rw [this] at hi; omega
  · have h3 : i < (bfs f st0 i).1.length := by omega
    obtain ⟨xs, hx⟩ := bfs_pre f st0 i (N - i)
    rw [show i + (N - i) = N by omega] at hx
    rw [hx, List.getElem?_append_left h3] at he
    obtain ⟨ys, hy⟩ := bfs_pre f st0 (i + 1) (N - (i + 1))
    rw [show i + 1 + (N - (i + 1)) = N by omega] at hy
    rw [hy]
    refine List.mem_append_left _ ?_
    show t ∈ (stepS f i (bfs f st0 i)).1
    unfold stepS
    rw [he]
    exact fold_has i _ _ t ht
/-! ### the path to a spot -/
def pth (st : StS) : Nat → Nat → List Spt
  | 0, _ => []
  | k + 1, i => (match st.2[i]? with
    | some (some p) => pth st k p
    | _ => []) ++ (st.1[i]?).toList
theorem pth_fuel {f : Spt → List Spt} {m N : Nat} {st : StS} (C : Sch f m N st) : ∀ (k i : Nat), i < k → pth st k i = pth st (i + 1) i
  | 0, i, h => by omega
  | k + 1, i, h => by
    show (match st.2[i]? with | some (some p) => pth st k p | _ => []) ++ _ = (match st.2[i]? with | some (some p) => pth st i p | _ => []) ++ _
    congr 1
    split
    · rename_i p hp
      have := (C.par i p hp).1
      rw [pth_fuel C k p (by omega), pth_fuel C i p this]
    · rfl
theorem pth_some {f : Spt → List Spt} {m N : Nat} {st : StS} (C : Sch f m N st) {i p : Nat} (h : st.2[i]? = some (some p)) : pth st (i + 1) i = pth st (p + 1) p ++ (st.1[i]?).toList := by
  show (match st.2[i]? with | some (some p) => pth st i p | _ => []) ++ _ = _
  rw [h]
  dsimp only
  rw [pth_fuel C i p (C.par i p h).1]
theorem pth_none {st : StS} {i : Nat} (h : st.2[i]? = some none) : pth st (i + 1) i = (st.1[i]?).toList := by
  show (match st.2[i]? with | some (some p) => pth st i p | _ => []) ++ _ = _
  rw [h]; rfl
theorem cn_append : ∀ {P : List Spt} {t u v : Spt}, Cn (P ++ [t]) u v ↔ Cn P u v ∨ (P.getLast? = some u ∧ v = t)
  | [], t, u, v => by simp [Cn]
  | [s], t, u, v => by
    show (u = s ∧ v = t) ∨ Cn [t] u v ↔ _
    simp [Cn, eq_comm]
  | s :: s' :: r, t, u, v => by
    show (u = s ∧ v = s') ∨ Cn (s' :: r ++ [t]) u v ↔ ((u = s ∧ v = s') ∨ Cn (s' :: r) u v) ∨ _
    rw [cn_append, List.getLast?_cons_cons, or_assoc]
structure Pth (f : Spt → List Spt) (S0 : List Spt) (st : StS) (i : Nat) (P : List Spt) : Prop where
  ne : P ≠ []
  la : P.getLast? = st.1[i]?
  nd : P.Nodup
  st_ : ∀ u v, Cn P u v → v ∈ f u
  hd : ∃ s ∈ S0, P.head? = some s
  idx : ∀ u ∈ P, ∃ j, j ≤ i ∧ st.1[j]? = some u
theorem pth_ok {f : Spt → List Spt} {S0 : List Spt} {N : Nat} {st : StS} (C : Sch f S0.length N st) (hp : ∃ xs, st.1 = S0 ++ xs) : ∀ (k i : Nat), i < k → i < st.1.length → Pth f S0 st i (pth st (i + 1) i)
  | 0, i, h, _ => by omega
  | k + 1, i, h, hi => by
    have hs := List.getElem?_eq_getElem hi
    have hi2 : i < st.2.length := by rw [C.len]; exact hi
    have hq := List.getElem?_eq_getElem hi2
    obtain ⟨s, hse⟩ : ∃ s, s = st.1[i] := ⟨_, rfl⟩
    rw [← hse] at hs
    cases ho : st.2[i] with
    | none =>
      rw [ho] at hq
      rw [pth_none hq, hs]
      have hm := (C.non i).mp hq
      obtain ⟨xs, hx⟩ := hp
      rw [hx, List.getElem?_append_left hm] at hs
      refine ⟨by simp, by rw [hx, List.getElem?_append_left hm, hs]; rfl, by simp, fun u v h => h.elim, ⟨s, List.mem_of_getElem? hs, rfl⟩, fun u hu => ⟨i, Nat.le_refl _, ?_⟩⟩
      simp at hu; subst hu
      rw [hx, List.getElem?_append_left hm, hs]
    | some p =>
      rw [ho] at hq
      obtain ⟨h1, _, s', t, h2, h3, h4⟩ := C.par i p hq
      rw [hs] at h3; cases h3
      have P := pth_ok C hp k p (by omega) (by omega)
      rw [pth_some C hq, hs]
      show Pth f S0 st i (pth st (p + 1) p ++ [s])
      refine ⟨by simp, by rw [List.getLast?_concat, hs], ?_, fun u v h => ?_, ?_, fun u hu => ?_⟩
      · rw [List.nodup_append]
        refine ⟨P.nd, by simp, fun a ha b hb e => ?_⟩
        obtain rfl := List.mem_singleton.mp hb
        subst e
        obtain ⟨j, hj, hj2⟩ := P.idx a ha
        have := (List.getElem?_inj (by omega) C.nd).mp (hj2.trans hs.symm)
        omega
      · rcases cn_append.mp h with h5 | ⟨h5, rfl⟩
        · exact P.st_ u v h5
        · rw [P.la, h2] at h5; cases h5; exact h4
      · obtain ⟨z, hz, hz2⟩ := P.hd
        refine ⟨z, hz, ?_⟩
        have hne := P.ne
        cases hpp : pth st (p + 1) p with
        | nil => exact absurd hpp hne
        | cons a r => rw [hpp] at hz2; exact hz2
      · rcases List.mem_append.mp hu with hu | hu
        · obtain ⟨j, hj, hj2⟩ := P.idx u hu
          exact ⟨j, by omega, hj2⟩
        · obtain rfl := List.mem_singleton.mp hu
          exact ⟨i, Nat.le_refl _, hs⟩
/-- the depths do not fall -/
theorem depth_mono {f : Spt → List Spt} {m N : Nat} {st : StS} (C : Sch f m N st) : ∀ (k i j : Nat), j < k → i ≤ j → j < st.1.length → (pth st (i + 1) i).length ≤ (pth st (j + 1) j).length
  | 0, i, j, h, _, _ => by omega
  | k + 1, i, j, h, hij, hj => by
    have e1 := List.getElem?_eq_getElem hj
    have e2 := List.getElem?_eq_getElem (show i < st.1.length by omega)
    have q1 := List.getElem?_eq_getElem (show j < st.2.length by rw [C.len]; exact hj)
    have q2 := List.getElem?_eq_getElem (show i < st.2.length by rw [C.len]; omega)
    cases oi : st.2[i]'(by rw [C.len]; omega) with
    | none =>
      rw [oi] at q2
      rw [pth_none q2, e2]
      cases oj : st.2[j]'(by rw [C.len]; omega) with
      | none => rw [oj] at q1; rw [pth_none q1, e1]; simp
      | some b => rw [oj] at q1; rw [pth_some C q1, e1]; simp
    | some a =>
      rw [oi] at q2
      cases oj : st.2[j]'(by rw [C.len]; omega) with
      | none =>
        rw [oj] at q1
        have h1 := (C.non j).mp q1
        have h2 := (C.non i).mpr (by omega)
        rw [h2] at q2; cases q2
      | some b =>
        rw [oj] at q1
        have hab := C.mono i j a b hij q2 q1
        have hb := (C.par j b q1).1
        rw [pth_some C q1, pth_some C q2, e1, e2]
        have := depth_mono C k a b (by omega) hab (by omega)
        simp; exact this
end Law
namespace Law
/-! ## cuts -/
theorem sub_len {α : Type} [BEq α] [LawfulBEq α] : ∀ {l m : List α}, l.Nodup → (∀ x ∈ l, x ∈ m) → l.length ≤ m.length
  | [], m, _, _ => by simp
  | a :: l, m, hn, hs => by
    obtain ⟨h1, h2⟩ := List.nodup_cons.mp hn
    have ha := hs a List.mem_cons_self
    have h3 := sub_len (l := l) (m := m.erase a) h2 fun x hx => by
      have hne : x ≠ a := fun e => h1 (e ▸ hx)
      exact (List.mem_erase_of_ne hne).mpr (hs x (List.mem_cons_of_mem _ hx))
    rw [List.length_erase_of_mem ha] at h3
    have := List.length_pos_of_mem ha
    rw [List.length_cons]; omega
/-- what is come to over open cells that are not barred -/
inductive Rch (nb : Nat → List Nat) (n : Nat) (closed src bar : List Nat) : Nat → Prop
  | st {c} : c ∈ src → c < n → c ∉ closed → c ∉ bar → Rch nb n closed src bar c
  | go {c o} : Rch nb n closed src bar c → o ∈ nb c → o ∉ closed → o ∉ bar → Rch nb n closed src bar o
def Cuts (nb : Nat → List Nat) (n : Nat) (closed src goals bar : List Nat) : Prop := ∀ c, Rch nb n closed src bar c → c ∉ goals
theorem Rch.open_ {nb : Nat → List Nat} {n : Nat} {closed src bar : List Nat} {c : Nat} (h : Rch nb n closed src bar c) : c ∉ closed ∧ c ∉ bar := by
  cases h with
  | st _ _ h1 h2 => exact ⟨h1, h2⟩
  | go _ _ h1 h2 => exact ⟨h1, h2⟩
section
variable {nb : Nat → List Nat} {n : Nat} {closed goals src bar : List Nat} {ws : List (List Nat)}
/-- along a way that has no barred cell ahead -/
theorem WOk.along (W : WOk nb n closed goals ws) {w : List Nat} (hw : w ∈ ws) {i : Nat} {x : Nat} (hx : w[i]? = some x) (hr : Rch nb n closed src bar x) : ∀ (j : Nat) (y : Nat), (∀ k z, i < k → k ≤ i + j → w[k]? = some z → z ∉ bar) → w[i + j]? = some y → Rch nb n closed src bar y
  | 0, y, _, hy => by rw [Nat.add_zero, hx] at hy; cases hy; exact hr
  | j + 1, y, hb, hy => by
    have hlt := (List.getElem?_eq_some_iff.mp hy).1
    have hz := List.getElem?_eq_getElem (show i + j < w.length by omega)
    have ih := WOk.along W hw hx hr j _ (fun k z h1 h2 h3 => hb k z h1 (by omega) h3) hz
    exact .go ih (W.lk w hw (i + j) _ y hz hy) (W.op w hw y (List.mem_of_getElem? hy)).1 (hb (i + j + 1) y (by omega) (by omega) hy)
/-- every way has a cell of a cut -/
theorem WOk.meets (W : WOk nb n closed goals ws) (hs : ∀ c ∈ headsOf ws, c ∈ src) (hc : Cuts nb n closed src goals bar) {w : List Nat} (hw : w ∈ ws) : ∃ c ∈ w, c ∈ bar := by
  by_cases h : ∃ c ∈ w, c ∈ bar
  · exact h
  · exfalso
    have hno : ∀ c ∈ w, c ∉ bar := fun c h1 h2 => h ⟨c, h1, h2⟩
    have hne := W.ne w hw
    have hpos := List.length_pos_iff.mpr hne
    have h0 := List.getElem?_eq_getElem hpos
    have hm0 := List.mem_of_getElem? h0
    have hh : w[0] ∈ src := hs _ (List.mem_map.mpr ⟨w, hw, by rw [h0]; rfl⟩)
    have r0 : Rch nb n closed src bar w[0] := .st hh (W.op w hw _ hm0).2 (W.op w hw _ hm0).1 (hno _ hm0)
    have hl := List.getElem?_eq_getElem (show w.length - 1 < w.length by omega)
    have r1 := W.along hw h0 r0 (w.length - 1) _ (fun k z _ _ hz => hno z (List.mem_of_getElem? hz)) (by rw [Nat.zero_add]; exact hl)
    exact hc _ r1 (W.en w hw _ (by rw [List.getLast?_eq_getElem?]; exact hl))
/-- no more ways than cells of a cut -/
theorem WOk.weak (W : WOk nb n closed goals ws) (hs : ∀ c ∈ headsOf ws, c ∈ src) (hc : Cuts nb n closed src goals bar) : ws.length ≤ bar.length := by
  let f : List Nat → Nat := fun w => (w.find? fun c => decide (c ∈ bar)).getD 0
  have hf : ∀ w ∈ ws, f w ∈ w ∧ f w ∈ bar := fun w hw => by
    obtain ⟨c, h1, h2⟩ := W.meets hs hc hw
    cases e : w.find? fun c => decide (c ∈ bar) with
    | none =>
      have := List.find?_eq_none.mp e c h1
      simp [h2] at this
    | some d =>
      have q1 := List.mem_of_find?_eq_some e
      have q2 := List.find?_some e
      simp only [f, e, Option.getD_some]
      exact ⟨q1, by simpa using q2⟩
  have hnd : (ws.map f).Nodup := by
    have W1 := W.nd
    have hf2 : ∀ w ∈ ws, f w ∈ w := fun w hw => (hf w hw).1
    clear hf W hs hc
    induction ws with
    | nil => simp
    | cons w ws ih =>
      rw [List.flatten_cons, List.nodup_append] at W1
      rw [List.map_cons, List.nodup_cons]
      refine ⟨fun h => ?_, ih W1.2.1 fun v hv => hf2 v (List.mem_cons_of_mem _ hv)⟩
      obtain ⟨v, hv, e⟩ := List.mem_map.mp h
      have h1 := hf2 w List.mem_cons_self
      have h2 := hf2 v (List.mem_cons_of_mem _ hv)
      rw [e] at h2
      exact W1.2.2 (f w) h1 (f w) (List.mem_flatten.mpr ⟨v, hv, h2⟩) rfl
  have := sub_len (m := bar) hnd fun x hx => by
    obtain ⟨w, hw, rfl⟩ := List.mem_map.mp hx
    exact (hf w hw).2
  simpa using this
/-! ### a search that has come to no goal -/
structure Stuck (nb : Nat → List Nat) (n : Nat) (closed goals src : List Nat) (pre : Nat → Option (Option Nat)) (R : Sp2 → Prop) : Prop where
  st : ∀ c ∈ src, c ∉ closed → R (c, false)
  cl : ∀ s t, R s → Nx nb closed pre s t → R t
  no : ∀ c ∈ goals, ¬ R (c, true)
variable {R : Sp2 → Prop}
theorem Stuck.un (S : Stuck nb n closed goals src (lookT (ahT ws)) R) {c : Nat} (h : R (c, false)) (hu : lookT (ahT ws) c = none) : R (c, true) := S.cl _ _ h (by unfold Nx; dsimp only; rw [hu])
theorem Stuck.back (S : Stuck nb n closed goals src (lookT (ahT ws)) R) {c b : Nat} (h : R (c, false)) (hu : lookT (ahT ws) c = some (some b)) : R (b, true) := S.cl _ _ h (by unfold Nx; dsimp only; rw [hu])
theorem Stuck.into (S : Stuck nb n closed goals src (lookT (ahT ws)) R) {c : Nat} (h : R (c, true)) (hu : lookT (ahT ws) c ≠ none) : R (c, false) := S.cl _ _ h (by unfold Nx; dsimp only; exact .inr ⟨rfl, hu⟩)
theorem Stuck.near (S : Stuck nb n closed goals src (lookT (ahT ws)) R) {c o : Nat} (h : R (c, true)) (ho : o ∈ nb c) (hc : o ∉ closed) : R (o, false) := S.cl _ _ h (by unfold Nx; dsimp only; exact .inl ⟨rfl, ho, hc⟩)
/-- a cut cell is on a way -/
theorem Stuck.used (S : Stuck nb n closed goals src (lookT (ahT ws)) R) {c : Nat} (h1 : R (c, false)) (h2 : ¬ R (c, true)) : lookT (ahT ws) c ≠ none := fun hu => h2 (S.un h1 hu)
theorem Stuck.cuts (S : Stuck nb n closed goals src (lookT (ahT ws)) R) (hb : ∀ c, c < n → R (c, false) → ¬ R (c, true) → c ∈ bar) (hlt : ∀ x y, y ∈ nb x → y < n) : ∀ c, Rch nb n closed src bar c → R (c, true) ∧ c < n := by
  intro c h
  have key : ∀ c, c < n → R (c, false) → c ∉ bar → R (c, true) := fun c h0 h1 h2 => by
    by_cases h3 : R (c, true)
    · exact h3
    · exact absurd (hb c h0 h1 h3) h2
  induction h with
  | st h1 h0 h2 h3 => exact ⟨key _ h0 (S.st _ h1 h2) h3, h0⟩
  | go _ h1 h2 h3 ih => exact ⟨key _ (hlt _ _ h1) (S.near ih.1 h1 h2) h3, hlt _ _ h1⟩
/-- downward along a way -/
theorem Stuck.down (S : Stuck nb n closed goals src (lookT (ahT ws)) R) (W : WOk nb n closed goals ws) {w : List Nat} (hw : w ∈ ws) : ∀ (j i x y : Nat), w[i]? = some x → w[i + j + 1]? = some y → R (y, false) → R (x, true)
  | 0, i, x, y, hx, hy, h => S.back h (by rw [W.look hw hy]; simp [hx])
  | j + 1, i, x, y, hx, hy, h => by
    have hlt := (List.getElem?_eq_some_iff.mp hy).1
    have hz := List.getElem?_eq_getElem (show i + j + 1 < w.length by omega)
    have h1 : R (w[i + j + 1]'(by omega), true) := S.back h (by rw [W.look hw hy]; simp; exact hz)
    exact Stuck.down S W hw j i x _ hx hz (S.into h1 (by rw [W.look hw hz]; simp))
/-- each way has one cut cell -/
theorem Stuck.one (S : Stuck nb n closed goals src (lookT (ahT ws)) R) (W : WOk nb n closed goals ws) (hs : ∀ c ∈ headsOf ws, c ∈ src) {w : List Nat} (hw : w ∈ ws) : ∃ c ∈ w, R (c, false) ∧ ¬ R (c, true) := by
  have hne := W.ne w hw
  have hpos := List.length_pos_iff.mpr hne
  have first : ∀ k, k < w.length → (∃ c ∈ w, R (c, false) ∧ ¬ R (c, true)) ∨ ∃ x, w[k]? = some x ∧ R (x, true) := by
    intro k
    induction k with
    | zero =>
      intro hk
      have h0 := List.getElem?_eq_getElem hk
      have hm0 := List.mem_of_getElem? h0
      have hh : w[0] ∈ src := hs _ (List.mem_map.mpr ⟨w, hw, by rw [h0]; rfl⟩)
      have r0 := S.st _ hh (W.op w hw _ hm0).1
      by_cases h : R (w[0], true)
      · exact .inr ⟨_, h0, h⟩
      · exact .inl ⟨_, hm0, r0, h⟩
    | succ k ih =>
      intro hk
      rcases ih (by omega) with h | ⟨x, hx, h⟩
      · exact .inl h
      · have hy := List.getElem?_eq_getElem hk
        have hm := List.mem_of_getElem? hy
        have r := S.near h (W.lk w hw k x _ hx hy) (W.op w hw _ hm).1
        by_cases h2 : R (w[k + 1], true)
        · exact .inr ⟨_, hy, h2⟩
        · exact .inl ⟨_, hm, r, h2⟩
  rcases first (w.length - 1) (by omega) with h | ⟨x, hx, h⟩
  · exact h
  · exact absurd h (S.no x (W.en w hw x (by rw [List.getLast?_eq_getElem?]; exact hx)))
theorem Stuck.uniq (S : Stuck nb n closed goals src (lookT (ahT ws)) R) (W : WOk nb n closed goals ws) {w : List Nat} (hw : w ∈ ws) {x y : Nat} (hx : x ∈ w) (hy : y ∈ w) (x1 : R (x, false)) (x2 : ¬ R (x, true)) (y1 : R (y, false)) (y2 : ¬ R (y, true)) : x = y := by
  obtain ⟨i, hi, e1⟩ := List.getElem_of_mem hx
  obtain ⟨j, hj, e2⟩ := List.getElem_of_mem hy
  have g1 := List.getElem?_eq_getElem hi
  have g2 := List.getElem?_eq_getElem hj
  rw [e1] at g1
  rw [e2] at g2
  rcases Nat.lt_trichotomy i j with h | h | h
  · exact absurd (S.down W hw (j - i - 1) i x y g1 (by rw [show i + (j - i - 1) + 1 = j by omega]; exact g2) y1) x2
  · subst h; rw [← e1, ← e2]
  · exact absurd (S.down W hw (i - j - 1) j y x g2 (by rw [show j + (i - j - 1) + 1 = i by omega]; exact g1) x1) y2
/-- as many cut cells as ways -/
theorem Stuck.count (S : Stuck nb n closed goals src (lookT (ahT ws)) R) (W : WOk nb n closed goals ws) (hs : ∀ c ∈ headsOf ws, c ∈ src) {cut : List Nat} (hn : cut.Nodup) (hc : ∀ c, c ∈ cut ↔ c < n ∧ R (c, false) ∧ ¬ R (c, true)) (hlt : ∀ x y, y ∈ nb x → y < n) : cut.length = ws.length := by
  refine Nat.le_antisymm ?_ (W.weak hs fun c h => ?_)
  · -- each cut cell has its way
    have : ∀ c ∈ cut, ∃ w ∈ ws, c ∈ w := fun c h => by
      obtain ⟨_, h1, h2⟩ := (hc c).mp h
      obtain ⟨w, hw, i, hi⟩ := W.used (S.used h1 h2)
      exact ⟨w, hw, List.mem_of_getElem? hi⟩
    let f : Nat → List Nat := fun c => (ws.find? fun w => decide (c ∈ w)).getD []
    have hf : ∀ c ∈ cut, f c ∈ ws ∧ c ∈ f c := fun c h => by
      obtain ⟨w, hw, hcw⟩ := this c h
      cases e : ws.find? fun w => decide (c ∈ w) with
      | none =>
        have := List.find?_eq_none.mp e w hw
        simp [hcw] at this
      | some d =>
        have q1 := List.mem_of_find?_eq_some e
        have q2 := List.find?_some e
        simp only [f, e, Option.getD_some]
        exact ⟨q1, by simpa using q2⟩
    have hnd : (cut.map f).Nodup := by
      unfold List.Nodup
      rw [List.pairwise_map]
      refine List.Pairwise.imp_of_mem ?_ hn
      intro a b ha hb hne e
      obtain ⟨_, a1, a2⟩ := (hc a).mp ha
      obtain ⟨_, b1, b2⟩ := (hc b).mp hb
      have h1 := hf a ha
      have h2 := hf b hb
      exact hne (S.uniq W h1.1 h1.2 (by rw [e]; exact h2.2) a1 a2 b1 b2)
    have := sub_len (m := ws) hnd fun x hx => by
      obtain ⟨c, hcc, rfl⟩ := List.mem_map.mp hx
      exact (hf c hcc).1
    simpa using this
  · intro hg
    exact S.no c hg ((S.cuts (bar := cut) (fun c h0 h1 h2 => (hc c).mpr ⟨h0, h1, h2⟩) hlt) c h).1
/-- the nearest cut cuts off -/
theorem Stuck.off (S : Stuck nb n closed goals src (lookT (ahT ws)) R) {cut : List Nat} (hc : ∀ c, c ∈ cut ↔ c < n ∧ R (c, false) ∧ ¬ R (c, true)) (hlt : ∀ x y, y ∈ nb x → y < n) : Cuts nb n closed src goals cut := fun c h hg =>
  S.no c hg ((S.cuts (bar := cut) (fun c h0 h1 h2 => (hc c).mpr ⟨h0, h1, h2⟩) hlt) c h).1
end
end Law
namespace Law
/-! ## the links behind a path, all at once -/
def gon1 (s t : Sp2) : List (Nat × Nat) := if s.1 ≠ t.1 ∧ s.2 = false then [(t.1, s.1)] else []
def new1 (s t : Sp2) : List (Nat × Nat) := if s.1 ≠ t.1 ∧ s.2 = true then [(s.1, t.1)] else []
def goneL : List Sp2 → List (Nat × Nat)
  | s :: t :: r => gon1 s t ++ goneL (t :: r)
  | _ => []
def newsL : List Sp2 → List (Nat × Nat)
  | s :: t :: r => new1 s t ++ newsL (t :: r)
  | _ => []
theorem gone_mem {x y : Nat} : ∀ {P : List Sp2}, (x, y) ∈ goneL P → RemL P x y
  | [], h => by cases h
  | [_], h => by cases h
  | s :: t :: r, h => by
    rcases List.mem_append.mp h with h | h
    · unfold gon1 at h
      split at h
      · rename_i hh
        simp at h
        obtain ⟨rfl, rfl⟩ := h
        obtain ⟨c, o⟩ := s
        obtain ⟨d, p⟩ := t
        dsimp only at hh
        obtain ⟨h1, h2⟩ := hh
        subst h2
        exact ⟨fun z => h1 z.symm, p, .inl ⟨rfl, rfl⟩⟩
      · cases h
    · obtain ⟨h1, b, h2⟩ := gone_mem h
      exact ⟨h1, b, .inr h2⟩
theorem chgs_eq : ∀ {P : List Sp2} (L : List (Nat × Nat)), P.Nodup → (∀ c v, Cn P (c, false) v → v.2 = true) → chgs L P = (L.filter fun l => !decide (l ∈ goneL P)) ++ newsL P
  | [], L, _, _ => by
    show L = (L.filter fun l => !decide (l ∈ ([] : List (Nat × Nat)))) ++ []
    rw [List.append_nil, List.filter_eq_self.mpr (by simp)]
  | [_], L, _, _ => by
    show L = (L.filter fun l => !decide (l ∈ ([] : List (Nat × Nat)))) ++ []
    rw [List.append_nil, List.filter_eq_self.mpr (by simp)]
  | s :: t :: r, L, hn, hv => by
    obtain ⟨hs, hn2⟩ := List.nodup_cons.mp hn
    have ih := chgs_eq (P := t :: r) (chg L s t) hn2 fun c v h => hv c v (.inr h)
    show chgs (chg L s t) (t :: r) = _
    rw [ih]
    show _ = (L.filter fun l => !decide (l ∈ gon1 s t ++ goneL (t :: r))) ++ (new1 s t ++ newsL (t :: r))
    obtain ⟨c, o⟩ := s
    obtain ⟨d, p⟩ := t
    by_cases hcd : c = d
    · have e1 : gon1 (c, o) (d, p) = [] := by unfold gon1; rw [if_neg (by simp [hcd])]
      have e2 : new1 (c, o) (d, p) = [] := by unfold new1; rw [if_neg (by simp [hcd])]
      have e3 : chg L (c, o) (d, p) = L := by unfold chg; rw [if_neg (by simp [hcd]), if_neg (by simp [hcd])]
      rw [e1, e2, e3]; simp
    · cases o with
      | true =>
        have e1 : gon1 (c, true) (d, p) = [] := by unfold gon1; rw [if_neg (by simp)]
        have e2 : new1 (c, true) (d, p) = [(c, d)] := by unfold new1; rw [if_pos ⟨hcd, rfl⟩]
        have e3 : chg L (c, true) (d, p) = L ++ [(c, d)] := by unfold chg; rw [if_pos ⟨hcd, rfl⟩]
        have e4 : (c, d) ∉ goneL ((d, p) :: r) := fun h => by
          obtain ⟨_, b, h2⟩ := gone_mem h
          have hb := hv d (c, b) (.inr h2)
          dsimp only at hb
          subst hb
          exact hs (List.mem_cons_of_mem _ (cn_mem h2).2)
        rw [e1, e2, e3, List.filter_append]
        have e5 : ([(c, d)].filter fun l => !decide (l ∈ goneL ((d, p) :: r))) = [(c, d)] := by rw [List.filter_cons, if_pos (by simp [e4])]; rfl
        rw [e5]; simp
      | false =>
        have e1 : gon1 (c, false) (d, p) = [(d, c)] := by unfold gon1; rw [if_pos ⟨hcd, rfl⟩]
        have e2 : new1 (c, false) (d, p) = [] := by unfold new1; rw [if_neg (by simp)]
        have e3 : chg L (c, false) (d, p) = L.filter fun l => decide (l ≠ (d, c)) := by unfold chg; rw [if_neg (by simp), if_pos hcd]
        rw [e1, e2, e3, List.filter_filter]
        congr 1
        refine List.filter_congr fun l _ => ?_
        by_cases h1 : l = (d, c)
        · simp [h1]
        · simp [h1]
theorem gone_snoc : ∀ (P : List Sp2) (s t : Sp2), goneL (P ++ [s] ++ [t]) = goneL (P ++ [s]) ++ gon1 s t
  | [], s, t => by simp [goneL]
  | [p], s, t => by simp [goneL]
  | p :: q :: P, s, t => by
    have := gone_snoc (q :: P) s t
    show gon1 p q ++ goneL (q :: P ++ [s] ++ [t]) = (gon1 p q ++ goneL (q :: P ++ [s])) ++ gon1 s t
    rw [this, List.append_assoc]
theorem news_snoc : ∀ (P : List Sp2) (s t : Sp2), newsL (P ++ [s] ++ [t]) = newsL (P ++ [s]) ++ new1 s t
  | [], s, t => by simp [newsL]
  | [p], s, t => by simp [newsL]
  | p :: q :: P, s, t => by
    have := news_snoc (q :: P) s t
    show new1 p q ++ newsL (q :: P ++ [s] ++ [t]) = (new1 p q ++ newsL (q :: P ++ [s])) ++ new1 s t
    rw [this, List.append_assoc]
/-! ### following, as the law does -/
def fstL (L : List (Nat × Nat)) (x : Nat) : List Nat := (L.filter fun l => decide (l.1 = x)).map (·.2)
def stepF (L : List (Nat × Nat)) (k : Nat) (m : List Nat) : List Nat := match m.getLast? with
  | none => m
  | some l => match fstL L l with
    | [] => m
    | y :: _ => if m.length = k + 1 then m ++ [y] else m
def lfN (L : List (Nat × Nat)) (c : Nat) : Nat → List Nat
  | 0 => [c]
  | k + 1 => stepF L k (lfN L c k)
section
variable {aft : Nat → Option Nat} {L : List (Nat × Nat)} {c n : Nat}
theorem fst_cases (h1 : ∀ x y, aft x = some y → (x, y) ∈ L) (h2 : ∀ x y, (x, y) ∈ L → aft x = some y) (x : Nat) : (aft x = none ∧ fstL L x = []) ∨ ∃ y r, aft x = some y ∧ fstL L x = y :: r := by
  cases e : fstL L x with
  | nil =>
    refine .inl ⟨?_, rfl⟩
    cases ha : aft x with
    | none => rfl
    | some y =>
      have : y ∈ fstL L x := List.mem_map.mpr ⟨(x, y), List.mem_filter.mpr ⟨h1 x y ha, by simp⟩, rfl⟩
      rw [e] at this; cases this
  | cons y r =>
    have : y ∈ fstL L x := by rw [e]; exact List.mem_cons_self
    obtain ⟨⟨a, b⟩, hm, hb⟩ := List.mem_map.mp this
    obtain ⟨hm1, hm2⟩ := List.mem_filter.mp hm
    simp at hm2 hb
    subst hm2; subst hb
    exact .inr ⟨b, r, h2 _ _ hm1, rfl⟩
theorem lf_met (inj : ∀ x y z, aft x = some z → aft y = some z → x = y) (hc : ∀ x, aft x ≠ some c) (h1 : ∀ x y, aft x = some y → (x, y) ∈ L) (h2 : ∀ x y, (x, y) ∈ L → aft x = some y) : ∀ k, lfN L c k = metS aft c k ∧ ((lfN L c k).length = k + 1 ∨ ∃ l, (metS aft c k).getLast? = some l ∧ aft l = none)
  | 0 => ⟨rfl, .inl rfl⟩
  | k + 1 => by
    obtain ⟨ih, hl⟩ := lf_met inj hc h1 h2 k
    have C := metS_chain aft c k
    obtain ⟨l, hlast⟩ : ∃ l, (metS aft c k).getLast? = some l := ⟨_, List.getLast?_eq_getLast C.ne⟩
    have e1 : lfN L c (k + 1) = stepF L k (metS aft c k) := by rw [← ih]; rfl
    have e2 : metS aft c (k + 1) = stepM aft (metS aft c k) := rfl
    rcases fst_cases h1 h2 l with ⟨a1, a2⟩ | ⟨y, r, a1, a2⟩
    · have s1 : stepF L k (metS aft c k) = metS aft c k := by unfold stepF; rw [hlast]; dsimp only; rw [a2]
      have s2 : stepM aft (metS aft c k) = metS aft c k := by unfold stepM; rw [hlast]; dsimp only; rw [a1]
      rw [e1, e2, s1, s2]
      exact ⟨rfl, .inr ⟨l, hlast, a1⟩⟩
    · have hlen : (metS aft c k).length = k + 1 := by
        rcases hl with hl | ⟨l', q1, q2⟩
        · rw [ih] at hl; exact hl
        · rw [hlast] at q1; cases q1; rw [a1] at q2; cases q2
      have hf := C.fresh inj hc hlast a1
      have s1 : stepF L k (metS aft c k) = metS aft c k ++ [y] := by unfold stepF; rw [hlast]; dsimp only; rw [a2]; dsimp only; rw [if_pos hlen]
      have s2 : stepM aft (metS aft c k) = metS aft c k ++ [y] := by unfold stepM; rw [hlast]; dsimp only; rw [a1]; dsimp only; rw [if_neg hf]
      rw [e1, e2, s1, s2]
      exact ⟨rfl, .inl (by rw [List.length_append, hlen]; rfl)⟩
theorem chain_links (h1 : ∀ x y, aft x = some y → (x, y) ∈ L) {m : List Nat} (C : Chain aft c m) : m.length ≤ L.length + 1 := by
  have hnd : (m.zip m.tail).Nodup := by
    have hm : ((m.zip m.tail).map Prod.snd).Nodup := by
      rw [List.map_snd_zip (by rw [List.length_tail]; omega)]
      exact C.nd.sublist (List.tail_sublist _)
    unfold List.Nodup at *
    rw [List.pairwise_map] at hm
    exact hm.imp fun h z => h (by rw [z])
  have := sub_len (m := L) hnd fun p hp => by
    obtain ⟨i, hi, e⟩ := List.getElem_of_mem hp
    have he := List.getElem?_eq_getElem hi
    rw [e, List.getElem?_zip_eq_some] at he
    exact h1 _ _ (C.lk i p.1 p.2 he.1 (by rw [← List.getElem?_tail]; exact he.2))
  rw [List.length_zip, List.length_tail] at this
  omega
theorem met_links (inj : ∀ x y z, aft x = some z → aft y = some z → x = y) (hc : ∀ x, aft x ≠ some c) (h1 : ∀ x y, aft x = some y → (x, y) ∈ L) (lt : ∀ x y, aft x = some y → y < n) (hcn : c < n) : metS aft c L.length = metS aft c n := by
  obtain ⟨l, q1, q2, q3⟩ := metS_end inj hc lt hcn
  have stop : ∃ l, (metS aft c L.length).getLast? = some l ∧ aft l = none ∧ ∀ j, metS aft c (L.length + j) = metS aft c L.length := by
    rcases Chain.stops inj hc lt hcn L.length with h | h
    · exact h
    · have C := metS_chain aft c L.length
      obtain ⟨l, hlast⟩ : ∃ l, (metS aft c L.length).getLast? = some l := ⟨_, List.getLast?_eq_getLast C.ne⟩
      cases ha : aft l with
      | none =>
        have st : stepM aft (metS aft c L.length) = metS aft c L.length := by unfold stepM; rw [hlast]; dsimp only; rw [ha]
        refine ⟨l, hlast, ha, fun j => ?_⟩
        induction j with
        | zero => rfl
        | succ j ih => show stepM aft (metS aft c (L.length + j)) = _; rw [ih, st]
      | some y =>
        exfalso
        have hf := C.fresh inj hc hlast ha
        have st : metS aft c (L.length + 1) = metS aft c L.length ++ [y] := by show stepM aft _ = _; unfold stepM; rw [hlast]; dsimp only; rw [ha]; dsimp only; rw [if_neg hf]
        have := chain_links h1 (metS_chain aft c (L.length + 1))
        rw [st, List.length_append, h] at this
        simp at this; omega
  obtain ⟨l', s1, s2, s3⟩ := stop
  by_cases h : L.length ≤ n
  · have := s3 (n - L.length)
    rw [show L.length + (n - L.length) = n by omega] at this
    exact this.symm
  · have := q3 (L.length - n)
    rw [show n + (L.length - n) = L.length by omega] at this
    exact this
end
end Law
namespace Law
open PySem L2 Q
theorem W_rev {i : Nat} {env : En} {Q : Fl → Prop} : W (mRev i) env Q ↔ Gt (ownL env i) fun xs => Q (.nx (putS env i (.lst xs.reverse))) := by
  unfold W mRev Gt
  constructor
  · rintro ⟨fl, h, q⟩
    obtain ⟨xs, h1, h2⟩ := Option.map_eq_some_iff.mp h
    subst h2
    exact ⟨xs, h1, q⟩
  · rintro ⟨xs, h1, q⟩
    exact ⟨_, by rw [h1]; rfl, q⟩
def bk (st : StS) : Option Nat → List Spt
  | none => []
  | some j => (pth st (j + 1) j).reverse
theorem pathTo_ok {f : Spt → List Spt} {m N : Nat} {st : StS} (C : Sch f m N st) (hl : st.1.length ≤ 9000) {i : Nat} (hi : i < st.1.length) :
    res n_path_to m_path_to [.imm (.lst (dSp st.1)), .imm (.lst (dPa st.2)), .imm (.int (i : Nat))] [] = some (.lst (dSp (pth st (i + 1) i)), []) := by
  refine res_eq ?_
  show W m_path_to [.imm (.lst (dSp st.1)), .imm (.lst (dPa st.2)), .imm (.int (i : Nat)), .un, .un] _
  unfold m_path_to
  obtain ⟨S, hS⟩ : ∃ S, S = dSp st.1 := ⟨_, rfl⟩
  obtain ⟨T, hT⟩ : ∃ T, T = dPa st.2 := ⟨_, rfl⟩
  rw [← hS, ← hT]
  simp -implicitDefEqProofs
  obtain ⟨P, hP⟩ := inv fun r e => ∃ (done : List Spt) (at_ : Option Nat), e = [.imm (.lst S), .imm (.lst T), .imm (.int (i : Nat)), .own (.lst (dSp done)), .imm (fN at_)] ∧ done ++ bk st at_ = (pth st (i + 1) i).reverse ∧ (∀ j, at_ = some j → j < r ∧ j < st.1.length) ∧ done.length + r ≤ i + 1
  refine W_wh P (i + 1) (by rw [hP]; exact ⟨[], some i, rfl, rfl, fun j hj => by cases hj; exact ⟨Nat.lt_succ_self _, hi⟩, by simp⟩) (show i + 1 < 10000 by omega) ?_
  intro r e h
  rw [hP] at h
  obtain ⟨done, at_, rfl, h1, h2, h3⟩ := h
  cases at_ with
  | none =>
    refine ⟨false, [.imm (.lst S), .imm (.lst T), .imm (.int (i : Nat)), .own (.lst (dSp done)), .imm .non], by simp -implicitDefEqProofs [fN], (fun z => by cases z), fun _ => ?_⟩
    have h4 : done = (pth st (i + 1) i).reverse := by simpa [bk] using h1
    simp -implicitDefEqProofs only [sqK_nx, W_seq, W_rev]
    simp -implicitDefEqProofs [h4]
  | some j =>
    obtain ⟨hj, hj2⟩ := h2 j rfl
    refine ⟨true, [.imm (.lst S), .imm (.lst T), .imm (.int (i : Nat)), .own (.lst (dSp done)), .imm (.int (j : Nat))], by simp -implicitDefEqProofs [fN], (fun _ => ⟨r - 1, by omega, ?_⟩), fun z => by cases z⟩
    have e1 := List.getElem?_eq_getElem hj2
    obtain ⟨s, hs⟩ : ∃ s, s = st.1[j] := ⟨_, rfl⟩
    rw [← hs] at e1
    have e2 := List.getElem?_eq_getElem (show j < st.2.length by rw [C.len]; exact hj2)
    obtain ⟨p, hp⟩ : ∃ p, p = st.2[j]'(by rw [C.len]; exact hj2) := ⟨_, rfl⟩
    rw [← hp] at e2
    have d1 : S[j]? = some (spD s) := by rw [hS, List.getElem?_map, e1]; rfl
    have d2 : T[j]? = some (fN p) := by rw [hT, List.getElem?_map, e2]; rfl
    have z1 : done.length < sizeLine := szL (by omega)
    simp -implicitDefEqProofs [d1, d2, z1]
    rw [hP]
    refine ⟨done ++ [s], p, by simp, ?_, fun k hk => ?_, by simp; omega⟩
    · rw [← h1]
      have hb : bk st (some j) = s :: bk st p := by
        cases p with
        | none => show (pth st (j + 1) j).reverse = _; rw [pth_none e2, e1]; rfl
        | some p => show (pth st (j + 1) j).reverse = _; rw [pth_some C e2, e1]; simp [bk]
      rw [hb]; simp
    · subst hk
      have := C.par j k e2
      omega
/-! ### the first spot out of a goal -/
def goalAt (goals : List Nat) (s : Spt) : Bool := s.2 && decide (s.1 ∈ goals)
def pathD (st : StS) (goals : List Nat) : D := match st.1.findIdx? (goalAt goals) with
  | none => .non
  | some i => .lst (dSp (pth st (i + 1) i))
theorem findIdx_take {α : Type} {p : α → Bool} : ∀ {xs : List α} {k : Nat} {x : α}, (∀ i y, i < k → xs[i]? = some y → p y = false) → xs[k]? = some x → p x = true → xs.findIdx? p = some k
  | [], k, x, _, h, _ => by cases h
  | y :: xs, 0, x, _, h, hx => by simp at h; subst h; simp [List.findIdx?_cons, hx]
  | y :: xs, k + 1, x, h0, h, hx => by
    have hy := h0 0 y (by omega) rfl
    rw [List.findIdx?_cons, hy]
    have := findIdx_take (p := p) (xs := xs) (k := k) (x := x) (fun i z hi hz => h0 (i + 1) z (by omega) hz) h hx
    simp [this]
theorem findIdx_none {α : Type} {p : α → Bool} {xs : List α} (h : ∀ (i : Nat) y, xs[i]? = some y → p y = false) : xs.findIdx? p = none := by
  rw [List.findIdx?_eq_none_iff]
  intro x hx
  obtain ⟨i, hi, e⟩ := List.getElem_of_mem hx
  exact h i x (by rw [List.getElem?_eq_getElem hi, e])
end Law
namespace Law
open PySem L2 Q
abbrev stAll (near : List (List Nat)) (closed : List Nat) (ws : List (List Nat)) (starts : List Nat) : StS := bfs (nextS near closed (ahT ws)) (st0S starts closed) (2 * near.length)
theorem st_sch (near : List (List Nat)) (closed : List Nat) (ws : List (List Nat)) {starts : List Nat} (hs : ∀ c ∈ starts, c < near.length) : Sch (nextS near closed (ahT ws)) (opens (ascN starts) closed).length (2 * near.length) (stAll near closed ws starts) :=
  bfs_sch (f := nextS near closed (ahT ws)) (st0 := st0S starts closed) (st0_ok (n := near.length) (closed := closed) hs).nd rfl (2 * near.length)
theorem enum_at {ds : List D} {k : Nat} {d : D} (h : (enumD 0 ds)[k]? = some d) : ∃ x, ds[k]? = some x ∧ d = .tup [.int (k : Nat), x] := by
  obtain ⟨x, h1, h2⟩ := enumD_get ds 0 k d h
  rw [Nat.zero_add] at h2
  exact ⟨x, h1, h2⟩
end Law
namespace Law
open PySem L2 Q
theorem W_weak {m : MS} {e : En} {A B : Fl → Prop} (h : W m e A) (k : ∀ fl, A fl → B fl) : W m e B := let ⟨fl, h1, h2⟩ := h; ⟨fl, h1, k fl h2⟩
theorem rt_res {N : List Str} {mf : MS} {ss : List Sl} {R : Md → D → Prop} (h : W mf (ss ++ List.replicate (N.length - ss.length) .un) (Rt R)) : ∃ md d, R md d ∧ res N mf ss [] = some (d, []) := by
  obtain ⟨d, ds, ⟨md, hr, rfl⟩, h2⟩ := res_of (N := N) (js := []) (ss := ss) (R := fun d ds => ∃ md, R md d ∧ ds = []) (W_weak h fun fl hf => by
    cases fl with
    | nx e => exact ⟨[], rfl, .imm, hf, rfl⟩
    | ret md d e => exact ⟨[], rfl, md, hf, rfl⟩
    | bk e => exact hf
    | ct e => exact hf)
  exact ⟨md, d, hr, h2⟩
theorem rtio_res {N : List Str} {mf : MS} {ss : List Sl} {j : Nat} {R : Md → D → D → Prop} (h : W mf (ss ++ List.replicate (N.length - ss.length) .un) (RtIo j R)) : ∃ md d x, R md d x ∧ res N mf ss [j] = some (d, [x]) := by
  obtain ⟨d, ds, ⟨md, x, hr, rfl⟩, h2⟩ := res_of (N := N) (js := [j]) (ss := ss) (R := fun d ds => ∃ md x, R md d x ∧ ds = [x]) (W_weak h fun fl hf => by
    cases fl with
    | nx e => obtain ⟨x, hx, hr⟩ := hf; exact ⟨[x], by simp [hx], .imm, x, hr, rfl⟩
    | ret md d e => obtain ⟨x, hx, hr⟩ := hf; exact ⟨[x], by simp [hx], md, x, hr, rfl⟩
    | bk e => exact hf
    | ct e => exact hf)
  exact ⟨md, d, x, hr, h2⟩
theorem eqv_same {neg : Bool} {ys : List D} {ps : List PyData} (h1 : toPs ys = some ps) (h2 : PyData.canLayAll0 ps = true) (h3 : PyData.depthAll ps ≤ 60) : dEqv neg (.lst ys) (.lst ys) = some (.bl (!neg)) := by
  have ht : toP (.lst ys) = some (.list ps) := by unfold toP; rw [h1]; rfl
  have hl : PyData.canLay0 (.list ps) = true := by simp -implicitDefEqProofs [PyData.canLay0, h2]
  have hd : PyData.depth (.list ps) ≤ 64 := by simp -implicitDefEqProofs [PyData.depth]; omega
  have hs : SeqAt.shaped (.list ps) = true := by unfold SeqAt.shaped; simp -implicitDefEqProofs [hl, hd]
  have he := SeqAt.eqv_refl _ hl
  show ((toP (.lst ys)).bind fun d => (toP (.lst ys)).bind fun e => if (SeqAt.shaped d && SeqAt.shaped e) = true then some (D.bl (if neg then !PyData.eqv d e else PyData.eqv d e)) else none) = _
  rw [ht, bind_some2, bind_some2, hs, he]
  cases neg <;> rfl
theorem eqv_Sp (neg : Bool) (xs : List Spt) : dEqv neg (.lst (dSp xs)) (.lst (dSp xs)) = some (.bl (!neg)) := eqv_same (toPs_sp xs) (lays_sp xs).1 (by have := (lays_sp xs).2; omega)
def paP : Option Nat → PyData
  | none => .none
  | some x => .int (x : Nat)
theorem toPs_pa : ∀ xs : List (Option Nat), toPs (dPa xs) = some (xs.map paP)
  | [] => rfl
  | x :: xs => by
    show (toP (fN x)).bind (fun p => (toPs (dPa xs)).map fun ps => p :: ps) = _
    have : toP (fN x) = some (paP x) := by cases x <;> rfl
    rw [this, toPs_pa xs]; rfl
theorem lays_pa : ∀ xs : List (Option Nat), PyData.canLayAll0 (xs.map paP) = true ∧ PyData.depthAll (xs.map paP) ≤ 1
  | [] => ⟨rfl, by simp [PyData.depthAll]⟩
  | x :: xs => by
    obtain ⟨h1, h2⟩ := lays_pa xs
    have h3 : PyData.canLay0 (paP x) = true := by cases x <;> rfl
    have h4 : PyData.depth (paP x) ≤ 1 := by cases x <;> simp [paP, PyData.depth]
    constructor
    · simp -implicitDefEqProofs [PyData.canLayAll0, h1, h3]
    · simp -implicitDefEqProofs [PyData.depthAll]; omega
theorem eqv_Pa (neg : Bool) (xs : List (Option Nat)) : dEqv neg (.lst (dPa xs)) (.lst (dPa xs)) = some (.bl (!neg)) := eqv_same (toPs_pa xs) (lays_pa xs).1 (by have := (lays_pa xs).2; omega)
theorem eqv_bl (neg a b : Bool) : dEqv neg (.bl a) (.bl b) = some (.bl (if neg then !decide (a = b) else decide (a = b))) := by cases neg <;> cases a <;> cases b <;> rfl
theorem copyN_lc {env : En} {k j : Nat} (cs : List Nat) (hn : cs.length ≤ 1000) (hkj : env[k]? = some (.imm (.lst (dN cs)))) (hj : ∃ s, env[j]? = some s ∧ s.calm = true) :
    mLc [j] (iAny (mVar k)) (gN j) mYes (mVar j) env = some (.lst (dN cs), env) := by
  obtain ⟨s, hs, hc⟩ := hj
  have hlt : j < env.length := (List.getElem?_eq_some_iff.mp hs).1
  have hself : env.set j s = env := by
    obtain ⟨h, rfl⟩ := List.getElem?_eq_some_iff.mp hs
    exact List.set_getElem_self h
  obtain ⟨acc, e2, hlc, ⟨t2, rfl⟩, hl⟩ := lc_ok (vs := [j]) (mi := iAny (mVar k)) (gf := gN j) (mt := mYes) (me := mVar j) (env := env) (e0 := env) (ds := dN cs)
    (by simp -implicitDefEqProofs [hkj]) (by simp -implicitDefEqProofs [calmAt, hs, hc]) (by simp -implicitDefEqProofs; omega) (fun e => ∃ t, e = env.set j t) (fun n acc => acc = dN (cs.take n)) ⟨s, hself.symm⟩ rfl (by
      rintro i d e acc hd ⟨t, rfl⟩ rfl
      simp -implicitDefEqProofs at hd
      obtain ⟨r, hr, rfl⟩ := hd
      refine ⟨env.set j (.imm (.int r)), true, env.set j (.imm (.int r)), by simp -implicitDefEqProofs [wipeE, hlt], rfl, fun _ => ⟨.int r, env.set j (.imm (.int r)), by simp -implicitDefEqProofs [hlt], ⟨_, rfl⟩, ?_⟩, by simp -implicitDefEqProofs⟩
      rw [List.take_succ, hr]; simp -implicitDefEqProofs)
  rw [hlc, hl]
  simp -implicitDefEqProofs [backE, wipeE, hs, hself]
theorem copies_lc {env : En} {k j i : Nat} (ws : List (List Nat)) (hn : ws.length ≤ 1000) (hw : ∀ w ∈ ws, w.length ≤ 1000) (hij : i ≠ j) (hkj : env[k]? = some (.imm (.lst (dNN ws)))) (hj : ∃ s, env[j]? = some s ∧ s.calm = true) (hi : ∃ s, env[i]? = some s ∧ s.calm = true) :
    mLc [j] (iAny (mVar k)) (gN j) mYes (mLc [i] (iAny (mVar j)) (gN i) mYes (mVar i)) env = some (.lst (dNN ws), env) := by
  obtain ⟨s, hs, hc⟩ := hj
  obtain ⟨si, hsi, hci⟩ := hi
  have hlt : j < env.length := (List.getElem?_eq_some_iff.mp hs).1
  have hself : env.set j s = env := by
    obtain ⟨h, rfl⟩ := List.getElem?_eq_some_iff.mp hs
    exact List.set_getElem_self h
  obtain ⟨acc, e2, hlc, ⟨t2, rfl⟩, hl⟩ := lc_ok (vs := [j]) (mi := iAny (mVar k)) (gf := gN j) (mt := mYes) (me := mLc [i] (iAny (mVar j)) (gN i) mYes (mVar i)) (env := env) (e0 := env) (ds := dNN ws)
    (by simp -implicitDefEqProofs [hkj]) (by simp -implicitDefEqProofs [calmAt, hs, hc]) (by simp -implicitDefEqProofs; omega) (fun e => ∃ t, e = env.set j t) (fun n acc => acc = dNN (ws.take n)) ⟨s, hself.symm⟩ rfl (by
      rintro n d e acc hd ⟨t, rfl⟩ rfl
      simp -implicitDefEqProofs at hd
      obtain ⟨r, hr, rfl⟩ := hd
      have hin := copyN_lc (env := env.set j (.imm (.lst (dN r)))) (k := j) (j := i) r (hw r (List.mem_of_getElem? hr)) (List.getElem?_set_self hlt) ⟨si, by rw [List.getElem?_set_ne (Ne.symm hij)]; exact hsi, hci⟩
      refine ⟨env.set j (.imm (.lst (dN r))), true, env.set j (.imm (.lst (dN r))), by simp -implicitDefEqProofs [wipeE, hlt], rfl, fun _ => ⟨.lst (dN r), env.set j (.imm (.lst (dN r))), hin, ⟨_, rfl⟩, ?_⟩, by simp -implicitDefEqProofs⟩
      rw [List.take_succ, hr]; simp -implicitDefEqProofs)
  rw [hlc, hl]
  simp -implicitDefEqProofs [backE, wipeE, hs, hself]
theorem isi_tup (xs : List D) : dIsi [.tup xs, .typ "tuple"] = some (.bl true) := rfl
theorem isi_lst (xs : List D) : dIsi [.lst xs, .typ "list"] = some (.bl true) := rfl
theorem isi_dic (ks : List Key) (xs : List D) : dIsi [.dic ks xs, .typ "dict"] = some (.bl true) := rfl
theorem isi_int (i : Int) : dIsi [.int i, .typ "int"] = some (.bl true) := rfl
theorem isi_intb (i : Int) : dIsi [.int i, .typ "bool"] = some (.bl false) := rfl
theorem isi_bl (b : Bool) : dIsi [.bl b, .typ "bool"] = some (.bl true) := rfl
theorem W_forK {w : Nat} {gf : D → En → Option En} {body : MS} {env : En} {ks : List Key} {xs : List D} {Q : Fl → Prop} (hw : env[w]? = some (.own (.dic ks xs))) (P : Nat → En → Prop) (h0 : P 0 (env.set w (.imm (.dic ks xs))))
    (hs : ∀ i d e, (ks.map kD)[i]? = some d → P i e → ∃ e1, gf d e = some e1 ∧ W body e1 (lp (P (i + 1)) Q)) (hend : ∀ e, P (ks.map kD).length e → Q (.nx e)) : W (mForK w gf body) env Q := by
  have e : mForK w gf body env = mForS (fun _ => some (ks.map kD, env.set w (.imm (.dic ks xs)))) gf body env := by
    unfold mForK mForS; rw [hw]; rfl
  unfold W
  rw [e]
  exact W_for (it := fun _ => some (ks.map kD, env.set w (.imm (.dic ks xs)))) (env := env) rfl P h0 hs hend
theorem look_mem {T : Tb} {p : Nat × Option Nat} (h : p ∈ T) : ∃ b, lookT T p.1 = some b := by
  unfold lookT
  cases e : T.find? fun q => q.1 == p.1 with
  | some q => exact ⟨q.2, rfl⟩
  | none =>
    have := List.find?_eq_none.mp e p h
    simp at this
end Law
namespace Law
open PySem L2 Q
@[simp] theorem ap_Chain (f f' : D → D → Option D) (a b c : ML) (env : En) : mChain f f' a b c env = (a env).bind fun p => (b p.2).bind fun q => (p.1.get q.2).bind fun x => (q.1.get q.2).bind fun y => (f x y).bind fun z => match z with
  | .bl true => (c q.2).bind fun r => (q.1.get r.2).bind fun y => (r.1.get r.2).bind fun w => (f' y w).map fun z => (z, r.2)
  | .bl false => some (.bl false, q.2)
  | _ => none := rfl
end Law
namespace Law
open PySem L2 Q
theorem toPs_N : ∀ xs : List Nat, toPs (dN xs) = some (xs.map fun c => PyData.int ((c : Nat) : Int))
  | [] => rfl
  | x :: xs => by
    show (toP (.int (x : Nat))).bind (fun p => (toPs (dN xs)).map fun ps => p :: ps) = _
    rw [toPs_N xs]; rfl
theorem lays_N : ∀ xs : List Nat, PyData.canLayAll0 (xs.map fun c => PyData.int ((c : Nat) : Int)) = true ∧ PyData.depthAll (xs.map fun c => PyData.int ((c : Nat) : Int)) ≤ 1
  | [] => ⟨rfl, by simp [PyData.depthAll]⟩
  | x :: xs => by
    obtain ⟨h1, h2⟩ := lays_N xs
    constructor
    · simp -implicitDefEqProofs [PyData.canLayAll0, PyData.canLay0, h1]
    · simp -implicitDefEqProofs [PyData.depthAll, PyData.depth]; omega
theorem eqv_N (neg : Bool) (xs : List Nat) : dEqv neg (.lst (dN xs)) (.lst (dN xs)) = some (.bl (!neg)) := eqv_same (toPs_N xs) (lays_N xs).1 (by have := (lays_N xs).2; omega)
theorem res_of_new {N : List Str} {mf : MS} {ss : List Sl} {js : List Nat} {r : D × List D} (h : resF N mf ss js = some r) : res N mf ss js = some r := by
  unfold resF at h
  unfold res
  obtain ⟨⟨md, q⟩, h1, h2⟩ := Option.bind_eq_some_iff.mp h
  rw [h1]
  cases md with
  | new => exact h2
  | imm => cases h2
end Law
namespace Law
open PySem L2 Q
/-! ### links as data -/
abbrev pD (p : Nat × Nat) : D := .tup [.int (p.1 : Nat), .int (p.2 : Nat)]
abbrev dLk (L : List (Nat × Nat)) : List D := L.map pD
def pPy (p : Nat × Nat) : PyData := .tuple [.int (p.1 : Nat), .int (p.2 : Nat)]
theorem eqv_pD (neg : Bool) (p q : Nat × Nat) : dEqv neg (pD p) (pD q) = some (.bl (if neg then !decide (p = q) else decide (p = q))) := by
  obtain ⟨a, b⟩ := p
  obtain ⟨c, d⟩ := q
  have e : PyData.eqv (pPy (a, b)) (pPy (c, d)) = decide ((a, b) = (c, d)) := by
    have h1 : PyData.eqv (pPy (a, b)) (pPy (c, d)) = (decide ((a : Int) = (c : Int)) && decide ((b : Int) = (d : Int))) := by
      simp -implicitDefEqProofs [pPy, PyData.eqv, PyData.eqvAll]
      first | rfl | (rw [Bool.eq_iff_iff]; simp)
    rw [h1, Bool.eq_iff_iff]
    simp only [Bool.and_eq_true, decide_eq_true_eq, Prod.mk.injEq]
    constructor
    · rintro ⟨h2, h3⟩; exact ⟨by omega, by omega⟩
    · rintro ⟨h2, h3⟩; exact ⟨by omega, by omega⟩
  have sh : ∀ p : Nat × Nat, SeqAt.shaped (pPy p) = true := fun p => by
    unfold SeqAt.shaped
    have h1 : PyData.canLay0 (pPy p) = true := rfl
    have h2 : PyData.depth (pPy p) ≤ 64 := by simp [pPy, PyData.depth, PyData.depthAll]
    rw [h1, Bool.true_and]; exact decide_eq_true h2
  show ((toP (pD (a, b))).bind fun x => (toP (pD (c, d))).bind fun y => if (SeqAt.shaped x && SeqAt.shaped y) = true then some (D.bl (if neg then !PyData.eqv x y else PyData.eqv x y)) else none) = _
  have t : ∀ p : Nat × Nat, toP (pD p) = some (pPy p) := fun p => rfl
  rw [t, t, bind_some2, bind_some2, sh, sh, e]; rfl
theorem cutD_t (xs : List D) : cutD xs (some 1) none = xs.tail := by
  cases xs with
  | nil => rfl
  | cons x xs => exact cutD_1 x xs
theorem zipD_N : ∀ (a b : List Nat), zipD (dN a) (dN b) = dLk (a.zip b)
  | [], b => by simp [zipD]
  | x :: a, [] => by simp [zipD]
  | x :: a, y :: b => by simp [zipD]; exact zipD_N a b
theorem copy_loop (e0 e1 : Sl) : ∀ (ds acc : List D) (t : Sl), acc.length + ds.length ≤ 9000 → ∃ t', lcLoop (gN 2) mYes (mVar 2) [2] ds acc [e0, e1, t] = some (acc ++ ds, [e0, e1, t'])
  | [], acc, t, _ => ⟨t, by simp [lcLoop]⟩
  | d :: ds, acc, t, h => by
    obtain ⟨t', ih⟩ := copy_loop e0 e1 ds (acc ++ [d]) (.imm d) (by simp at *; omega)
    refine ⟨t', ?_⟩
    have z : acc.length < sizeLine := szL (by simp at h; omega)
    unfold lcLoop
    simp -implicitDefEqProofs [wipeE, mYes, z]
    rw [ih]; simp
theorem links_loop (W : List D) : ∀ (ws : List (List Nat)) (acc : List D) (s t : Sl), (∀ w ∈ ws, w.length ≤ 31) → acc.length + 31 * ws.length ≤ 9000 →
    ∃ s' t', lc2Loop (gN 1) mYes (iZp (aCons (mVar 1) (aCons (mSl dSlL (lVar 1) (oSome (mC (.int 1))) oNone) aNil))) (gN 2) mYes (mVar 2) [1, 2] [2] (dNN ws) acc [.imm (.lst W), s, t] = some (acc ++ dLk (linksOf ws), [.imm (.lst W), s', t'])
  | [], acc, s, t, _, _ => ⟨s, t, by simp [lc2Loop, linksOf]⟩
  | w :: ws, acc, s, t, hw, hl => by
    have h1 := hw w List.mem_cons_self
    have hz : (w.zip w.tail).length ≤ 31 := by rw [List.length_zip]; omega
    obtain ⟨t1, e1⟩ := copy_loop (.imm (.lst W)) (.imm (.lst (dN w))) (dLk (w.zip w.tail)) acc .un (by rw [List.length_map]; simp at hl; omega)
    obtain ⟨s', t', ih⟩ := links_loop W ws (acc ++ dLk (w.zip w.tail)) (.imm (.lst (dN w))) .un (fun v hv => hw v (List.mem_cons_of_mem _ hv)) (by rw [List.length_append, List.length_map]; simp at hl; omega)
    refine ⟨s', t', ?_⟩
    unfold lc2Loop
    have hi : iZp (aCons (mVar 1) (aCons (mSl dSlL (lVar 1) (oSome (mC (.int 1))) oNone) aNil)) [.imm (.lst W), .imm (.lst (dN w)), .un] = some (dLk (w.zip w.tail), [.imm (.lst W), .imm (.lst (dN w)), .un]) := by
      have hz := zipD_N w w.tail
      have ht : (dN w).tail = dN w.tail := by cases w <;> rfl
      rw [← ht] at hz
      obtain ⟨X, hX⟩ : ∃ X, X = dN w := ⟨_, rfl⟩
      rw [← hX] at hz ⊢
      unfold iZp
      simp -implicitDefEqProofs [dSlL, cutD_t, hz, oNone]
    obtain ⟨mi, hmi⟩ : ∃ mi, mi = iZp (aCons (mVar 1) (aCons (mSl dSlL (lVar 1) (oSome (mC (.int 1))) oNone) aNil)) := ⟨_, rfl⟩
    rw [← hmi] at hi ih ⊢
    have hlk : linksOf (w :: ws) = w.zip w.tail ++ linksOf ws := by unfold linksOf; rw [List.flatMap_cons]
    simp -implicitDefEqProofs only [List.map_cons, wipeE, gN, mYes, List.length_cons, List.length_nil, List.set_cons_zero, List.set_cons_succ, Nat.reduceAdd, Nat.reduceLT, if_true, bind_some2, hi, e1, ih, hlk, List.map_append, List.append_assoc]
theorem links_ok (ws : List (List Nat)) (hw : ∀ w ∈ ws, w.length ≤ 31) (hl : ws.length ≤ 20) : res n_links_of m_links_of [.imm (.lst (dNN ws))] [] = some (.lst (dLk (linksOf ws)), []) := by
  refine res_eq ?_
  show W m_links_of [.imm (.lst (dNN ws)), .un, .un] _
  obtain ⟨s, t, h⟩ := links_loop (dNN ws) ws [] .un .un hw (by simp; omega)
  have e : mLc2 [1, 2] [2] (iAny (mVar 0)) (gN 1) mYes (iZp (aCons (mVar 1) (aCons (mSl dSlL (lVar 1) (oSome (mC (.int 1))) oNone) aNil))) (gN 2) mYes (mVar 2) [.imm (.lst (dNN ws)), .un, .un] = some (.lst (dLk (linksOf ws)), [.imm (.lst (dNN ws)), .un, .un]) := by
    unfold mLc2
    have h0 : iAny (mVar 0) [.imm (.lst (dNN ws)), .un, .un] = some (dNN ws, [.imm (.lst (dNN ws)), .un, .un]) := by simp -implicitDefEqProofs
    rw [h0, bind_some2]
    dsimp only
    rw [if_pos (by rfl), h]
    rfl
  unfold m_links_of
  rw [W_retF, e]
  simp -implicitDefEqProofs
end Law
namespace Law
open PySem L2 Q
theorem chgs_snoc : ∀ (P : List Spt) (s t : Spt) (L : List (Nat × Nat)), chgs L (P ++ [s] ++ [t]) = chg (chgs L (P ++ [s])) s t
  | [], s, t, L => rfl
  | [p], s, t, L => rfl
  | p :: q :: P, s, t, L => chgs_snoc (q :: P) s t (chg L p q)
theorem chgs_one (L : List (Nat × Nat)) (s : Spt) : chgs L [s] = L := rfl
theorem chg_len (L : List (Nat × Nat)) (s t : Spt) : (chg L s t).length ≤ L.length + 1 := by
  unfold chg
  split
  · simp
  · split
    · have := List.length_filter_le (fun l => decide (l ≠ (t.1, s.1))) L; omega
    · omega
theorem take_two {P : List Spt} {k : Nat} {s t : Spt} (h1 : P[k]? = some s) (h2 : P[k + 1]? = some t) : P.take (k + 2) = P.take k ++ [s] ++ [t] ∧ P.take (k + 1) = P.take k ++ [s] := by
  have e1 : P.take (k + 1) = P.take k ++ [s] := by rw [List.take_succ, h1]; rfl
  have e2 : P.take (k + 1 + 1) = P.take (k + 1) ++ [t] := by rw [List.take_succ, h2]; rfl
  exact ⟨by rw [e2, e1], e1⟩
theorem chgs_step {P : List Spt} {k : Nat} {s t : Spt} (L : List (Nat × Nat)) (h1 : P[k]? = some s) (h2 : P[k + 1]? = some t) : chgs L (P.take (k + 2)) = chg (chgs L (P.take (k + 1))) s t := by
  obtain ⟨e1, e2⟩ := take_two h1 h2
  rw [e1, e2, chgs_snoc]
/-- the links but one -/
theorem less_lc {env : En} {j : Nat} (L : List (Nat × Nat)) (x y : Nat) {mt : MT} {e0 : En} (hn : L.length ≤ 1000) {mi : MI} (hi : mi env = some (dLk L, e0)) (hj : ∃ s, e0[j]? = some s ∧ s.calm = true)
    (hmt : ∀ p : Nat × Nat, mt (e0.set j (.imm (pD p))) = some (!decide (p = (x, y)), e0.set j (.imm (pD p)))) :
    mLc [j] mi (gN j) mt (mVar j) env = some (.lst (dLk (L.filter fun l => decide (l ≠ (x, y)))), e0) := by
  obtain ⟨s, hs, hc⟩ := hj
  have hlt : j < e0.length := (List.getElem?_eq_some_iff.mp hs).1
  have hself : e0.set j s = e0 := by
    obtain ⟨h, rfl⟩ := List.getElem?_eq_some_iff.mp hs
    exact List.set_getElem_self h
  obtain ⟨acc, e2, hlc, ⟨t2, rfl⟩, hl⟩ := lc_ok (vs := [j]) (mi := mi) (gf := gN j) (mt := mt) (me := mVar j) (env := env) (e0 := e0) (ds := dLk L)
    hi (by simp -implicitDefEqProofs [calmAt, hs, hc]) (by simp -implicitDefEqProofs; omega) (fun e => ∃ t, e = e0.set j t) (fun n acc => acc = dLk ((L.take n).filter fun l => decide (l ≠ (x, y)))) ⟨s, hself.symm⟩ rfl (by
      rintro n d e acc hd ⟨t, rfl⟩ rfl
      rw [List.getElem?_map] at hd
      obtain ⟨p, hp, rfl⟩ := Option.map_eq_some_iff.mp hd
      have htk : L.take (n + 1) = L.take n ++ [p] := by rw [List.take_succ, hp]; rfl
      refine ⟨e0.set j (.imm (pD p)), !decide (p = (x, y)), e0.set j (.imm (pD p)), by simp -implicitDefEqProofs [wipeE, hlt], hmt p, fun hq => ⟨pD p, e0.set j (.imm (pD p)), by simp -implicitDefEqProofs [hlt], ⟨_, rfl⟩, ?_⟩, fun hq => ⟨⟨_, rfl⟩, ?_⟩⟩
      · have hq2 : ¬ p = (x, y) := by simpa using hq
        rw [htk, List.filter_append]
        have : ([p].filter fun l => decide (l ≠ (x, y))) = [p] := by rw [List.filter_cons, if_pos (by simpa using hq2)]; rfl
        rw [this]; simp
      · have hq2 : p = (x, y) := by simpa using hq
        rw [htk, List.filter_append]
        have : ([p].filter fun l => decide (l ≠ (x, y))) = [] := by rw [List.filter_cons, if_neg (by simpa using hq2)]; rfl
        rw [this]; simp)
  rw [hlc, hl]
  rw [List.length_map, List.take_length]
  simp -implicitDefEqProofs [backE, wipeE, hs, hself]
theorem zip_at {P : List Spt} {k : Nat} {d : D} (h : (zipD (dSp P) (dSp P.tail))[k]? = some d) : ∃ s t, P[k]? = some s ∧ P[k + 1]? = some t ∧ d = .tup [spD s, spD t] := by
  obtain ⟨a, b, h1, h2, rfl⟩ := zipD_get _ _ _ _ h
  rw [List.getElem?_map] at h1 h2
  obtain ⟨s, hs, rfl⟩ := Option.map_eq_some_iff.mp h1
  obtain ⟨t, ht, rfl⟩ := Option.map_eq_some_iff.mp h2
  exact ⟨s, t, hs, by rw [← List.getElem?_tail]; exact ht, rfl⟩
theorem changed_ok (L : List (Nat × Nat)) (P : List Spt) (hne : P ≠ []) (hl : L.length + P.length ≤ 900) : res n_changed_links m_changed_links [.imm (.lst (dLk L)), .imm (.lst (dSp P))] [] = some (.lst (dLk (chgs L P)), []) := by
  refine res_eq ?_
  show W m_changed_links [.imm (.lst (dLk L)), .imm (.lst (dSp P)), .un, .un, .un, .un, .un, .un] _
  unfold m_changed_links
  have hpos : 0 < P.length := List.length_pos_iff.mpr hne
  have ht : (dSp P).tail = dSp P.tail := by cases P <;> rfl
  have hz : zipD (dSp P) (dSp P).tail = zipD (dSp P) (dSp P.tail) := by rw [ht]
  have hzl : (zipD (dSp P) (dSp P).tail).length = P.length - 1 := by rw [hz, zipD_length]; simp
  have hzat : ∀ (k : Nat) (d : D), (zipD (dSp P) (dSp P).tail)[k]? = some d → ∃ s t, P[k]? = some s ∧ P[k + 1]? = some t ∧ d = .tup [spD s, spD t] := fun k d h => by rw [hz] at h; exact zip_at h
  obtain ⟨X, hX⟩ : ∃ X, X = dSp P := ⟨_, rfl⟩
  obtain ⟨Y, hY⟩ : ∃ Y, Y = dLk L := ⟨_, rfl⟩
  rw [← hX] at hzl hzat
  rw [← hX, ← hY]
  simp -implicitDefEqProofs
  have z0 : chgs L (P.take 1) = L := by
    cases P with
    | nil => exact absurd rfl hne
    | cons p P => rfl
  obtain ⟨Pv, hP⟩ := inv fun k e => ∃ (M : List (Nat × Nat)) (s t u v w : Sl), e = [.imm (.lst Y), .imm (.lst X), .own (.lst (dLk M)), s, t, u, v, w] ∧ M = chgs L (P.take (k + 1)) ∧ M.length ≤ L.length + k ∧ w.calm = true
  refine W_for (ds := zipD X X.tail) (e0 := [.imm (.lst Y), .imm (.lst X), .own (.lst Y), .un, .un, .un, .un, .un]) (by simp -implicitDefEqProofs [iZp, dSlL, cutD_t, oNone]) Pv (by rw [hP]; exact ⟨L, _, _, _, _, _, by rw [hY], z0.symm, by simp, rfl⟩) ?_ ?_
  · intro k d e hd h0
    rw [hP] at h0
    obtain ⟨M, s0, t0, u0, v0, w0, rfl, h1, h2, h3⟩ := h0
    obtain ⟨⟨c, o⟩, ⟨c2, o2⟩, e1, e2, rfl⟩ := hzat k d hd
    have hkl := (List.getElem?_eq_some_iff.mp e2).1
    have hstep := chgs_step L e1 e2
    rw [← h1] at hstep
    have hclen := chg_len M (c, o) (c2, o2)
    refine ⟨[.imm (.lst Y), .imm (.lst X), .own (.lst (dLk M)), .imm (.int (c : Nat)), .imm (.bl o), .imm (.int (c2 : Nat)), .imm (.bl o2), w0], by simp -implicitDefEqProofs, ?_⟩
    have z1 : M.length < sizeLine := szL (by omega)
    have z2 : (dLk M).length < sizeLine := by rw [List.length_map]; exact z1
    by_cases hcc : c = c2
    · have hch : chg M (c, o) (c2, o2) = M := by unfold chg; rw [if_neg (by simp [hcc]), if_neg (by simp [hcc])]
      have q1 : dEqv true (.int (c : Nat)) (.int (c2 : Nat)) = some (.bl false) := by rw [eqv_int]; simp [hcc]
      obtain ⟨Z, hZ⟩ : ∃ Z, Z = dLk M := ⟨_, rfl⟩
      rw [← hZ]
      simp -implicitDefEqProofs [q1]
      rw [hP]
      exact ⟨M, _, _, _, _, _, by rw [hZ], by rw [hstep, hch], by omega, h3⟩
    · have hcc2 : ¬ ((c : Nat) : Int) = (c2 : Nat) := by omega
      have q1 : dEqv true (.int (c : Nat)) (.int (c2 : Nat)) = some (.bl true) := by rw [eqv_int]; simp [hcc2]
      cases o with
      | true =>
        have hch : chg M (c, true) (c2, o2) = M ++ [(c, c2)] := by unfold chg; rw [if_pos (by simp [hcc])]
        have hd : dLk (M ++ [(c, c2)]) = dLk M ++ [.tup [.int (c : Nat), .int (c2 : Nat)]] := by simp
        obtain ⟨Z, hZ⟩ : ∃ Z, Z = dLk M := ⟨_, rfl⟩
        rw [← hZ] at z2 hd ⊢
        simp -implicitDefEqProofs [q1, z2]
        rw [hP]
        exact ⟨M ++ [(c, c2)], _, _, _, _, _, by rw [hd], by rw [hstep, hch], by simp; omega, h3⟩
      | false =>
        have hch : chg M (c, false) (c2, o2) = M.filter fun l => decide (l ≠ (c2, c)) := by unfold chg; rw [if_neg (by simp), if_pos (by simp [hcc])]
        have lc := less_lc (env := [.imm (.lst Y), .imm (.lst X), .own (.lst (dLk M)), .imm (.int (c : Nat)), .imm (.bl false), .imm (.int (c2 : Nat)), .imm (.bl o2), w0]) (j := 7) M c2 c (mi := iAny (mVar 2)) (e0 := [.imm (.lst Y), .imm (.lst X), .imm (.lst (dLk M)), .imm (.int (c : Nat)), .imm (.bl false), .imm (.int (c2 : Nat)), .imm (.bl o2), w0])
          (mt := mTest (mBin (dEqv true) (lVar 7) (lFix (mTup (aCons (mVar 5) (aCons (mVar 3) aNil)))))) (by omega) (by simp -implicitDefEqProofs) ⟨w0, rfl, h3⟩ (fun p => by
            have q2 := eqv_pD true p (c2, c)
            simp -implicitDefEqProofs only [if_true] at q2
            obtain ⟨pp, hpp⟩ : ∃ pp, pp = pD p := ⟨_, rfl⟩
            rw [← hpp] at q2 ⊢
            simp -implicitDefEqProofs [q2])
        have hfl : (M.filter fun l => decide (l ≠ (c2, c))).length ≤ M.length := List.length_filter_le _ _
        obtain ⟨N, hN⟩ : ∃ N, N = M.filter fun l => decide (l ≠ (c2, c)) := ⟨_, rfl⟩
        rw [← hN] at lc hch hfl
        obtain ⟨Z, hZ⟩ : ∃ Z, Z = dLk M := ⟨_, rfl⟩
        rw [← hZ] at lc ⊢
        simp -implicitDefEqProofs [q1, lc]
        rw [hP]
        exact ⟨N, _, _, _, _, _, rfl, by rw [hstep, hch], by omega, h3⟩
  · intro e h0
    rw [hP] at h0
    obtain ⟨M, s0, t0, u0, v0, w0, rfl, h1, h2, h3⟩ := h0
    rw [hzl, show P.length - 1 + 1 = P.length by omega, List.take_length] at h1
    subst h1
    simp -implicitDefEqProofs
end Law
namespace Law
open PySem L2 Q
/-! ### dict(links) -/
def aT (L : List (Nat × Nat)) : Tb := L.foldl (fun T p => putT T p.1 (some p.2)) []
def aftL (L : List (Nat × Nat)) (x : Nat) : Option Nat := (lookT (aT L) x).bind id
theorem aT_some : ∀ (L : List (Nat × Nat)) (T : Tb) (x : Nat) (b : Option Nat), lookT (L.foldl (fun T p => putT T p.1 (some p.2)) T) x = some b → (∃ y, b = some y ∧ (x, y) ∈ L) ∨ lookT T x = some b
  | [], T, x, b, h => .inr h
  | p :: L, T, x, b, h => by
    rw [List.foldl_cons] at h
    rcases aT_some L _ x b h with ⟨y, h1, h2⟩ | h
    · exact .inl ⟨y, h1, List.mem_cons_of_mem _ h2⟩
    · rw [look_put] at h
      by_cases e : x = p.1
      · rw [if_pos e] at h
        injection h with h
        exact .inl ⟨p.2, h.symm, by rw [e]; exact List.mem_cons_self⟩
      · rw [if_neg e] at h; exact .inr h
theorem aT_has : ∀ (L : List (Nat × Nat)) (T : Tb) (x : Nat), (lookT T x ≠ none ∨ ∃ y, (x, y) ∈ L) → lookT (L.foldl (fun T p => putT T p.1 (some p.2)) T) x ≠ none
  | [], T, x, h => by
    rcases h with h | ⟨y, h⟩
    · exact h
    · cases h
  | p :: L, T, x, h => by
    rw [List.foldl_cons]
    refine aT_has L _ x ?_
    rcases h with h | ⟨y, h⟩
    · refine .inl ?_
      rw [look_put]; split
      · simp
      · exact h
    · rcases List.mem_cons.mp h with h | h
      · refine .inl ?_
        rw [look_put, if_pos (by rw [← h])]; simp
      · exact .inr ⟨y, h⟩
theorem aT_val (L : List (Nat × Nat)) (x : Nat) : lookT (aT L) x = (aftL L x).map some := by
  unfold aftL
  cases e : lookT (aT L) x with
  | none => rfl
  | some b =>
    rcases aT_some L [] x b e with ⟨y, h1, _⟩ | h
    · subst h1; rfl
    · cases h
theorem aft_mem {L : List (Nat × Nat)} {x y : Nat} (h : aftL L x = some y) : (x, y) ∈ L := by
  have e := aT_val L x
  rw [h] at e
  rcases aT_some L [] x _ e with ⟨z, h1, h2⟩ | h
  · injection h1 with h1; rw [h1]; exact h2
  · cases h
theorem aft_has {L : List (Nat × Nat)} {x y : Nat} (h : (x, y) ∈ L) : aftL L x ≠ none := fun e => by
  have e2 := aT_val L x
  rw [e] at e2
  exact aT_has L [] x (.inr ⟨y, h⟩) e2
theorem pairs_L : ∀ L : List (Nat × Nat), pairsD (dLk L) = some (L.map fun p => (.inl ((p.1 : Nat) : Int), .int (p.2 : Nat)))
  | [] => rfl
  | p :: L => by
    show (pairD (pD p)).bind (fun q => (pairsD (dLk L)).map fun ps => q :: ps) = _
    rw [pairs_L L]; rfl
theorem merg_L : ∀ (L : List (Nat × Nat)) (T : Tb), D.dic (mergD (L.map fun p => (.inl ((p.1 : Nat) : Int), .int (p.2 : Nat))) (T.map fun p => (.inl ((p.1 : Nat) : Int) : Key)) (T.map fun p => fN p.2)).1 (mergD (L.map fun p => (.inl ((p.1 : Nat) : Int), .int (p.2 : Nat))) (T.map fun p => (.inl ((p.1 : Nat) : Int) : Key)) (T.map fun p => fN p.2)).2 = tabD fN (L.foldl (fun T p => putT T p.1 (some p.2)) T)
  | [], T => rfl
  | p :: L, T => by
    have e := putTab fN T p.1 (some p.2)
    unfold tabD at e
    injection e with e1 e2
    have ih := merg_L L (putT T p.1 (some p.2))
    simp only [List.map_cons, mergD, List.foldl_cons]
    rw [← ih, ← e1, ← e2]
    rfl
theorem dict_L (L : List (Nat × Nat)) : dDictP [.lst (dLk L)] = some (tabD fN (aT L)) := by
  unfold dDictP
  simp only [pairs_L, Option.map_some]
  have := merg_L L []
  simp only [List.map_nil] at this
  rw [this]; rfl
/-! ### follow -/
theorem stay_M {aft : Nat → Option Nat} {c k : Nat} (h : stepM aft (metS aft c k) = metS aft c k) : ∀ j, metS aft c (k + j) = metS aft c k
  | 0 => rfl
  | j + 1 => by
    show stepM aft (metS aft c (k + j)) = _
    rw [stay_M h j, h]
theorem follow_ok (L : List (Nat × Nat)) (c n : Nat) (hc : c < n) (hlt : ∀ x y, aftL L x = some y → y < n) (hn : n ≤ 100) : res n_follow m_follow [.imm (.lst (dLk L)), .imm (.int (c : Nat))] [] = some (.lst (dN (metS (aftL L) c n)), []) := by
  refine res_eq ?_
  show W m_follow [.imm (.lst (dLk L)), .imm (.int (c : Nat)), .un, .un] _
  unfold m_follow
  have d1 := dict_L L
  obtain ⟨X, hX⟩ : ∃ X, X = dLk L := ⟨_, rfl⟩
  rw [← hX] at d1 ⊢
  have i1 := fun x => inD_T false fN x (aT L)
  have i2 := fun x => get_T fN x (aT L)
  simp only [aT_val] at i1 i2
  obtain ⟨tb, htb⟩ : ∃ tb, tb = tabD fN (aT L) := ⟨_, rfl⟩
  rw [← htb] at d1
  simp only [← htb] at i1 i2
  simp -implicitDefEqProofs [d1]
  obtain ⟨P, hP⟩ := inv fun r e => ∃ k : Nat, k + r = n ∧ (metS (aftL L) c k).length = k + 1 ∧ e = [.imm (.lst X), .imm (.int (c : Nat)), .imm tb, .own (.lst (dN (metS (aftL L) c k)))]
  refine W_wh P n (by rw [hP]; exact ⟨0, by omega, rfl, rfl⟩) (show n < 10000 by omega) ?_
  intro r e h0
  rw [hP] at h0
  obtain ⟨k, hk, hlen, rfl⟩ := h0
  have C := metS_chain (aftL L) c k
  obtain ⟨l, hl⟩ : ∃ l, (metS (aftL L) c k).getLast? = some l := ⟨_, List.getLast?_eq_getLast C.ne⟩
  obtain ⟨z, l1, l2⟩ := atI_last (dN (metS (aftL L) c k)) (by simpa using C.ne)
  rw [List.getLast?_map, hl] at l1
  cases l1
  have hle := metS_len (aft := aftL L) (c := c) hlt hc (k + 1)
  have hst : stepM (aftL L) (metS (aftL L) c k) = match aftL L l with
    | none => metS (aftL L) c k
    | some y => if y ∈ metS (aftL L) c k then metS (aftL L) c k else metS (aftL L) c k ++ [y] := by
    unfold stepM; rw [hl]; first | done | (dsimp only; cases aftL L l <;> rfl)
  change atI (dN (metS (aftL L) c k)) (-1) = some (.int (l : Nat)) at l2
  have j1 := i1 l
  have j2 := i2 l
  have inm := fun neg y => in_N neg y (metS (aftL L) c k)
  have stop : stepM (aftL L) (metS (aftL L) c k) = metS (aftL L) c k → metS (aftL L) c n = metS (aftL L) c k := fun h => by
    have := stay_M h r
    rw [hk] at this; exact this
  have hsucc : metS (aftL L) c (k + 1) = stepM (aftL L) (metS (aftL L) c k) := rfl
  have happ : ∀ y, dN (metS (aftL L) c k ++ [y]) = dN (metS (aftL L) c k) ++ [.int (y : Nat)] := fun y => by simp
  have hlM : (dN (metS (aftL L) c k)).length = k + 1 := by rw [List.length_map, hlen]
  obtain ⟨M, hM⟩ : ∃ M, M = metS (aftL L) c k := ⟨_, rfl⟩
  rw [← hM] at hst hlen hlM hsucc l2 happ
  simp only [← hM] at inm stop
  obtain ⟨Y, hY⟩ : ∃ Y, Y = dN M := ⟨_, rfl⟩
  rw [← hY] at l2 hlM
  simp only [← hY] at inm happ
  rw [← hM, ← hY]
  have z1 : Y.length < sizeLine := szL (by omega)
  cases ha : aftL L l with
  | none =>
    rw [ha] at hst j1
    dsimp only at hst
    have hfin := stop hst
    refine ⟨false, [.imm (.lst X), .imm (.int (c : Nat)), .imm tb, .own (.lst Y)], by simp -implicitDefEqProofs [l2, j1], (fun z => by cases z), fun _ => ?_⟩
    simp -implicitDefEqProofs [hfin, hY]
  | some y =>
    rw [ha] at hst j1 j2
    dsimp only at hst
    by_cases hm : y ∈ M
    · rw [if_pos hm] at hst
      have hfin := stop hst
      have q := inm true y
      rw [decT hm] at q
      refine ⟨false, [.imm (.lst X), .imm (.int (c : Nat)), .imm tb, .own (.lst Y)], by simp -implicitDefEqProofs [l2, j1, j2, fN, q], (fun z => by cases z), fun _ => ?_⟩
      simp -implicitDefEqProofs [hfin, hY]
    · rw [if_neg hm] at hst
      have q := inm true y
      rw [decF hm] at q
      refine ⟨true, [.imm (.lst X), .imm (.int (c : Nat)), .imm tb, .own (.lst Y)], by simp -implicitDefEqProofs [l2, j1, j2, fN, q], (fun _ => ⟨r - 1, ?_, ?_⟩), fun z => by cases z⟩
      · rw [hsucc, hst, List.length_append, hlen] at hle
        simp at hle; omega
      · simp -implicitDefEqProofs [l2, j2, fN, z1]
        rw [hP]
        refine ⟨k + 1, by rw [hsucc, hst, List.length_append, hlen] at hle; simp at hle; omega, by rw [hsucc, hst, List.length_append, hlen]; rfl, ?_⟩
        rw [hsucc, hst, happ y]
end Law
namespace Law
open PySem L2 Q
theorem chgs_len : ∀ (P : List Spt) (L : List (Nat × Nat)), (chgs L P).length ≤ L.length + P.length
  | [], L => by simp [chgs]
  | [s], L => by simp [chgs]
  | s :: t :: P, L => by
    have := chgs_len (t :: P) (chg L s t)
    have h2 := chg_len L s t
    show (chgs (chg L s t) (t :: P)).length ≤ _
    simp at *; omega
theorem links_len : ∀ ws : List (List Nat), (∀ w ∈ ws, w.length ≤ 31) → (linksOf ws).length ≤ 31 * ws.length
  | [], _ => by simp [linksOf]
  | w :: ws, h => by
    have h1 := links_len ws fun v hv => h v (List.mem_cons_of_mem _ hv)
    have h2 := h w List.mem_cons_self
    have hlk : linksOf (w :: ws) = w.zip w.tail ++ linksOf ws := by unfold linksOf; rw [List.flatMap_cons]
    rw [hlk, List.length_append, List.length_zip, List.length_cons]; omega
/-- the first cells, as the text takes them -/
theorem heads_lc {env e0 : En} {j : Nat} {mi : MI} (ws : List (List Nat)) (hn : ws.length ≤ 1000) (hne : ∀ w ∈ ws, w ≠ []) (hi : mi env = some (dNN ws, e0)) (hj : ∃ s, e0[j]? = some s ∧ s.calm = true) :
    mLc [j] mi (gN j) mYes (mBin dIx (lVar j) (lFix (mC (.int 0)))) env = some (.lst (dN (headsOf ws)), e0) := by
  obtain ⟨s, hs, hc⟩ := hj
  have hlt : j < e0.length := (List.getElem?_eq_some_iff.mp hs).1
  have hself : e0.set j s = e0 := by
    obtain ⟨h, rfl⟩ := List.getElem?_eq_some_iff.mp hs
    exact List.set_getElem_self h
  obtain ⟨acc, e2, hlc, ⟨t2, rfl⟩, hl⟩ := lc_ok (vs := [j]) (mi := mi) (gf := gN j) (mt := mYes) (me := mBin dIx (lVar j) (lFix (mC (.int 0)))) (env := env) (e0 := e0) (ds := dNN ws)
    hi (by simp -implicitDefEqProofs [calmAt, hs, hc]) (by simp -implicitDefEqProofs; omega) (fun e => ∃ t, e = e0.set j t) (fun n acc => acc = dN (headsOf (ws.take n))) ⟨s, hself.symm⟩ rfl (by
      rintro n d e acc hd ⟨t, rfl⟩ rfl
      rw [List.getElem?_map] at hd
      obtain ⟨w, hw, rfl⟩ := Option.map_eq_some_iff.mp hd
      have htk : ws.take (n + 1) = ws.take n ++ [w] := by rw [List.take_succ, hw]; rfl
      have hw1 := hne w (List.mem_of_getElem? hw)
      obtain ⟨x, v, rfl⟩ : ∃ x v, w = x :: v := by cases w with | nil => exact absurd rfl hw1 | cons x v => exact ⟨x, v, rfl⟩
      refine ⟨e0.set j (.imm (.lst (dN (x :: v)))), true, e0.set j (.imm (.lst (dN (x :: v)))), by simp -implicitDefEqProofs [wipeE, hlt], rfl, fun hq => ⟨.int (x : Nat), e0.set j (.imm (.lst (dN (x :: v)))), by simp -implicitDefEqProofs [hlt], ⟨_, rfl⟩, ?_⟩, fun hq => by cases hq⟩
      rw [htk]; simp [headsOf])
  rw [hlc, hl, List.length_map, List.take_length]
  simp -implicitDefEqProofs [backE, wipeE, hs, hself]
theorem newWays_ok (ws : List (List Nat)) (P : List Spt) (a : Nat) (o : Bool) (n : Nat) (hw : ∀ w ∈ ws, w ≠ [] ∧ w.length ≤ 31) (hl : ws.length ≤ 20) (hP : P.head? = some (a, o)) (hPl : P.length ≤ 100)
    (hlt : ∀ x y, aftL (chgs (linksOf ws) P) x = some y → y < n) (hh : ∀ c ∈ headsOf ws, c < n) (ha : a < n) (hn : n ≤ 100) :
    res n_new_ways m_new_ways [.imm (.lst (dNN ws)), .imm (.lst (dSp P))] [] = some (.lst (dNN ((headsOf ws ++ [a]).map fun c => metS (aftL (chgs (linksOf ws) P)) c n)), []) := by
  have l1 := links_ok ws (fun w h => (hw w h).2) hl
  have hll := links_len ws fun w h => (hw w h).2
  have hne : P ≠ [] := fun z => by rw [z] at hP; cases hP
  have l2 := changed_ok (linksOf ws) P hne (by omega)
  have l3 := fun c (hc : c < n) => follow_ok (chgs (linksOf ws) P) c n hc hlt hn
  obtain ⟨L, hL⟩ : ∃ L, L = chgs (linksOf ws) P := ⟨_, rfl⟩
  rw [← hL] at l2 ⊢
  simp only [← hL] at l3
  have p0 : (dSp P)[0]? = some (spD (a, o)) := by rw [List.getElem?_map, ← List.head?_eq_getElem?, hP]; rfl
  obtain ⟨X, hX⟩ : ∃ X, X = dSp P := ⟨_, rfl⟩
  obtain ⟨Y, hY⟩ : ∃ Y, Y = dLk L := ⟨_, rfl⟩
  obtain ⟨Y0, hY0⟩ : ∃ Y, Y = dLk (linksOf ws) := ⟨_, rfl⟩
  rw [← hX] at l2 p0
  rw [← hX]
  rw [← hY0] at l1 l2
  rw [← hY] at l2
  simp only [← hY] at l3
  refine res_eq ?_
  show W m_new_ways [.imm (.lst (dNN ws)), .imm (.lst X), .un, .un, .un, .un, .un, .un] _
  unfold m_new_ways
  have h1 := heads_lc (env := [.imm (.lst (dNN ws)), .imm (.lst X), .imm (.lst Y), .un, .un, .un, .un, .un]) (e0 := [.imm (.lst (dNN ws)), .imm (.lst X), .imm (.lst Y), .un, .un, .un, .un, .un]) (j := 6) (mi := iAny (mVar 0)) ws (by omega) (fun w h => (hw w h).1) (by simp -implicitDefEqProofs) ⟨.un, rfl, rfl⟩
  have hhl : (headsOf ws).length ≤ 20 := by unfold headsOf; rw [List.length_map]; exact hl
  -- the chains
  obtain ⟨acc, e2, hlc, ⟨t2, rfl⟩, hlk⟩ := lc_ok (vs := [7]) (mi := iAny (mBin dCat (lVar 3) (lFix (mLst (aCons (mVar 4) aNil))))) (gf := gN 7) (mt := mYes) (me := mCallV n_follow 2 m_follow (cBor 2 (cImm (mVar 7) cNil)))
    (env := [.imm (.lst (dNN ws)), .imm (.lst X), .imm (.lst Y), .own (.lst (dN (headsOf ws))), .imm (.int (a : Nat)), .imm (.bl o), .un, .un]) (e0 := [.imm (.lst (dNN ws)), .imm (.lst X), .imm (.lst Y), .own (.lst (dN (headsOf ws))), .imm (.int (a : Nat)), .imm (.bl o), .un, .un]) (ds := dN (headsOf ws ++ [a]))
    (by
      have z : (headsOf ws).length + 1 ≤ sizeLine := szS (by omega)
      have e : dN (headsOf ws ++ [a]) = dN (headsOf ws) ++ [.int (a : Nat)] := by simp
      have z2 : (dN (headsOf ws)).length + 1 ≤ sizeLine := by rw [List.length_map]; exact z
      obtain ⟨H, hH⟩ : ∃ H, H = dN (headsOf ws) := ⟨_, rfl⟩
      rw [e, ← hH]
      rw [← hH] at z2
      simp -implicitDefEqProofs [z2]) rfl (by rw [List.length_map, List.length_append]; simp; omega)
    (fun e => ∃ t, e = [.imm (.lst (dNN ws)), .imm (.lst X), .imm (.lst Y), .own (.lst (dN (headsOf ws))), .imm (.int (a : Nat)), .imm (.bl o), .un, t]) (fun k acc => acc = dNN (((headsOf ws ++ [a]).take k).map fun c => metS (aftL L) c n)) ⟨_, rfl⟩ rfl (by
      rintro k d e acc hd ⟨t, rfl⟩ rfl
      rw [List.getElem?_map] at hd
      obtain ⟨c, hc, rfl⟩ := Option.map_eq_some_iff.mp hd
      have hcn : c < n := by
        rcases List.mem_append.mp (List.mem_of_getElem? hc) with h | h
        · exact hh c h
        · obtain rfl := List.mem_singleton.mp h; exact ha
      have f := l3 c hcn
      have htk : (headsOf ws ++ [a]).take (k + 1) = (headsOf ws ++ [a]).take k ++ [c] := by rw [List.take_succ, hc]; rfl
      obtain ⟨H, hH⟩ : ∃ H, H = dN (headsOf ws) := ⟨_, rfl⟩
      rw [← hH]
      refine ⟨[.imm (.lst (dNN ws)), .imm (.lst X), .imm (.lst Y), .own (.lst H), .imm (.int (a : Nat)), .imm (.bl o), .un, .imm (.int (c : Nat))], true, [.imm (.lst (dNN ws)), .imm (.lst X), .imm (.lst Y), .own (.lst H), .imm (.int (a : Nat)), .imm (.bl o), .un, .imm (.int (c : Nat))], by simp -implicitDefEqProofs [wipeE], rfl, fun hq => ⟨.lst (dN (metS (aftL L) c n)), [.imm (.lst (dNN ws)), .imm (.lst X), .imm (.lst Y), .own (.lst H), .imm (.int (a : Nat)), .imm (.bl o), .un, .imm (.int (c : Nat))], by simp -implicitDefEqProofs [V_eq, f], ⟨_, rfl⟩, ?_⟩, fun hq => by cases hq⟩
      rw [htk]; simp)
  rw [List.length_map, List.take_length] at hlk
  subst hlk
  have hb : backE [.imm (.lst (dNN ws)), .imm (.lst X), .imm (.lst Y), .own (.lst (dN (headsOf ws))), .imm (.int (a : Nat)), .imm (.bl o), .un, .un] (wipeE [.imm (.lst (dNN ws)), .imm (.lst X), .imm (.lst Y), .own (.lst (dN (headsOf ws))), .imm (.int (a : Nat)), .imm (.bl o), .un, t2] [7]) [7] = [.imm (.lst (dNN ws)), .imm (.lst X), .imm (.lst Y), .own (.lst (dN (headsOf ws))), .imm (.int (a : Nat)), .imm (.bl o), .un, .un] := rfl
  rw [hb] at hlc
  obtain ⟨R, hR⟩ : ∃ R, R = dNN ((headsOf ws ++ [a]).map fun c => metS (aftL L) c n) := ⟨_, rfl⟩
  rw [← hR] at hlc ⊢
  obtain ⟨H, hH⟩ : ∃ H, H = dN (headsOf ws) := ⟨_, rfl⟩
  rw [← hH] at h1 hlc
  simp -implicitDefEqProofs [V_eq, l1, l2, h1, p0, hlc]
end Law
namespace Law
open PySem L2 Q
abbrev nbN (near : List (List Nat)) (c : Nat) : List Nat := near[c]?.getD []
theorem IsFl.no_self {near : List (List Nat)} {doors : List Nat} (F : IsFl near doors) (c : Nat) : c ∉ nbN near c := fun h => by
  unfold nbN at h
  cases e : near[c]? with
  | none => rw [e] at h; cases h
  | some row => rw [e] at h; exact F.nol c row e h
theorem IsFl.nb_lt {near : List (List Nat)} {doors : List Nat} (F : IsFl near doors) (x y : Nat) (h : y ∈ nbN near x) : y < near.length := by
  unfold nbN at h
  cases e : near[x]? with
  | none => rw [e] at h; cases h
  | some row =>
    rw [e] at h
    obtain ⟨row', e1, _⟩ := (F.row x row e).2 y h
    exact (List.getElem?_eq_some_iff.mp e1).1
theorem nx_iff (near : List (List Nat)) (closed : List Nat) (T : Tb) (s t : Spt) : t ∈ nextS near closed T s ↔ Nx (nbN near) closed (lookT T) s t := by
  obtain ⟨c, o⟩ := s
  obtain ⟨d, p⟩ := t
  unfold nextS Nx
  cases o with
  | true =>
    simp only [if_true, List.mem_append, opens, List.mem_map, List.mem_filter, Bool.not_eq_true', decide_eq_false_iff_not, Prod.mk.injEq]
    constructor
    · rintro (⟨x, ⟨h1, h2⟩, rfl, rfl⟩ | h)
      · exact .inl ⟨rfl, h1, h2⟩
      · refine .inr ?_
        split at h
        · rename_i hs
          simp at h
          exact ⟨h, fun z => by rw [z] at hs; cases hs⟩
        · cases h
    · rintro (⟨rfl, h1, h2⟩ | ⟨h, hs⟩)
      · exact .inl ⟨d, ⟨h1, h2⟩, rfl, rfl⟩
      · refine .inr ?_
        rw [if_pos (by cases e : lookT T c with | none => exact absurd e hs | some b => rfl)]
        simp [h]
  | false =>
    simp only [Bool.false_eq_true, if_false]
    cases e : lookT T c with
    | none => simp
    | some b => cases b <;> simp
theorem ascN_has {ns : List Nat} {c : Nat} (h : c ∈ ns) : c ∈ ascN ns := by
  unfold ascN
  refine List.mem_map.mpr ⟨(c : Nat), (asc_mem _ _).mpr (List.mem_map.mpr ⟨c, h, rfl⟩), by simp⟩
theorem WOk.small {near : List (List Nat)} {closed goals : List Nat} {ws : List (List Nat)} (W : WOk (nbN near) near.length closed goals ws) (hn : near.length ≤ 30) : ∀ w ∈ ws, w.length ≤ 31 ∧ ∀ c ∈ w, c < near.length := fun w hw => by
  have h1 := nd_small near.length w (flat_nd W.nd hw) fun x hx => (W.op w hw x hx).2
  exact ⟨by omega, fun c hc => (W.op w hw c hc).2⟩
section
variable {near : List (List Nat)} {doors closed goals src : List Nat} {ws : List (List Nat)}
/-- a path that the search has found -/
theorem found_aug (W : WOk (nbN near) near.length closed goals ws) (hs : ∀ c ∈ src, c < near.length) {i : Nat} (hi : (stAll near closed ws src).1.findIdx? (goalAt goals) = some i) :
    ∃ a g, Aug (nbN near) closed (lookT (ahT ws)) (pth (stAll near closed ws src) (i + 1) i) a g ∧ g ∈ goals ∧ a ∈ src ∧ a ∉ closed := by
  have C := st_sch near closed ws hs
  obtain ⟨hlt, hp, _⟩ := List.findIdx?_eq_some_iff_getElem.mp hi
  have P := pth_ok C (bfs_st0 _ (st0S src closed) _) (i + 1) i (Nat.lt_succ_self i) hlt
  obtain ⟨⟨g, o⟩, hg⟩ : ∃ s, s = (stAll near closed ws src).1[i] := ⟨_, rfl⟩
  rw [← hg] at hp
  have ho : o = true ∧ g ∈ goals := by unfold goalAt at hp; simpa using hp
  obtain ⟨s, hs0, hh⟩ := P.hd
  unfold opens at hs0
  obtain ⟨a, ha, rfl⟩ := List.mem_map.mp hs0
  obtain ⟨ha1, ha2⟩ := List.mem_filter.mp ha
  refine ⟨a, g, ⟨P.nd, fun u v h => (nx_iff _ _ _ _ _).mp (P.st_ u v h), hh, ?_⟩, ho.2, ascN_mem ha1, by simpa using ha2⟩
  rw [P.la, List.getElem?_eq_getElem hlt, ← hg, ho.1]
theorem not_found (F : IsFl near doors) (hT : ∀ p ∈ ahT ws, p.1 < near.length ∧ ∀ x, p.2 = some x → x < near.length) (hs : ∀ c ∈ src, c < near.length) (hi : (stAll near closed ws src).1.findIdx? (goalAt goals) = none) : Stuck (nbN near) near.length closed goals src (lookT (ahT ws)) (fun s => s ∈ (stAll near closed ws src).1) where
  st := fun c hc ho => by
    obtain ⟨xs, hx⟩ := bfs_st0 (nextS near closed (ahT ws)) (st0S src closed) (2 * near.length)
    show (c, false) ∈ (bfs _ _ _).1
    rw [hx]
    exact List.mem_append_left _ (List.mem_map.mpr ⟨c, List.mem_filter.mpr ⟨ascN_has hc, by simpa using ho⟩, rfl⟩)
  cl := fun s t h1 h2 => bfs_closed (bfs_ok (fun s h => nextS_lt near doors closed (ahT ws) F hT s h) (st0_ok (closed := closed) hs) (2 * near.length)).small h1 ((nx_iff _ _ _ _ _).mpr h2)
  no := fun c hc h => by
    have := List.findIdx?_eq_none_iff.mp hi (c, true) h
    simp [goalAt, hc] at this
theorem pth_len (hs : ∀ c ∈ src, c < near.length) (F : IsFl near doors) (hT : ∀ p ∈ ahT ws, p.1 < near.length ∧ ∀ x, p.2 = some x → x < near.length) {i : Nat} (hi : i < (stAll near closed ws src).1.length) : (pth (stAll near closed ws src) (i + 1) i).length ≤ 60 := by
  have hle := F.le
  have C := st_sch near closed ws hs
  have hok := bfs_ok (fun s h => nextS_lt near doors closed (ahT ws) F hT s h) (st0_ok (closed := closed) hs) (2 * near.length)
  have P := pth_ok C (bfs_st0 _ (st0S src closed) _) (i + 1) i (Nat.lt_succ_self i) hi
  have := nd_small (2 * near.length) ((pth (stAll near closed ws src) (i + 1) i).map codeS) (by
    have h := P.nd
    unfold List.Nodup at *
    rw [List.pairwise_map]
    exact h.imp fun hne z => hne (codeS_inj z)) fun x hx => by
      obtain ⟨u, hu, rfl⟩ := List.mem_map.mp hx
      obtain ⟨j, _, hj⟩ := P.idx u hu
      have := hok.lt u (List.mem_of_getElem? hj)
      unfold codeS
      split <;> omega
  rw [List.length_map] at this
  omega
theorem headsOf_new (starts : List Nat) (aft : Nat → Option Nat) (n : Nat) : headsOf (starts.map fun c => metS aft c n) = starts := by
  unfold headsOf
  rw [List.map_map]
  conv => rhs; rw [← List.map_id starts]
  refine List.map_congr_left fun c _ => ?_
  show ((metS aft c n)[0]?).getD 0 = c
  rw [(metS_chain aft c n).hd]; rfl
theorem WOk.tab (W : WOk (nbN near) near.length closed goals ws) : ∀ p ∈ ahT ws, p.1 < near.length ∧ ∀ x, p.2 = some x → x < near.length := by
  have hw : ∀ w ∈ ws, ∀ c ∈ w, c < near.length := fun w hw c hc => (W.op w hw c hc).2
  clear W
  unfold ahT
  suffices ∀ (ws : List (List Nat)) (T : Tb), (∀ w ∈ ws, ∀ c ∈ w, c < near.length) → (∀ p ∈ T, p.1 < near.length ∧ ∀ x, p.2 = some x → x < near.length) → ∀ p ∈ ws.foldl (fun T w => (ahW w T).1) T, p.1 < near.length ∧ ∀ x, p.2 = some x → x < near.length from this ws [] hw (by simp)
  intro ws
  induction ws with
  | nil => intro T _ hT; exact hT
  | cons w ws ih => intro T hw hT; exact ih _ (fun v hv => hw v (List.mem_cons_of_mem _ hv)) (ahW_lt w T (hw w List.mem_cons_self) hT)
/-- one way more, or stuck -/
theorem one_more (sts : List (List Nat)) (F : IsFl near doors) (W : WOk (nbN near) near.length closed goals ws) (hwl : ws.length ≤ 10) (hs : ∀ c ∈ src, c < near.length) {i : Nat} (hi : (stAll near closed ws src).1.findIdx? (goalAt goals) = some i) :
    ∃ ws' a, res n_new_ways m_new_ways [.imm (.lst (dNN ws)), .imm (.lst (dSp (pth (stAll near closed ws src) (i + 1) i)))] [] = some (.lst (dNN ws'), []) ∧ WOk (nbN near) near.length closed goals ws' ∧ headsOf ws' = headsOf ws ++ [a] ∧ a ∈ src ∧ a ∉ closed ∧ a ∉ headsOf ws ∧ ws'.length = ws.length + 1 := by
  have hle := F.le
  obtain ⟨a, g, A, hg, ha, hac⟩ := found_aug W hs hi
  obtain ⟨hlt, _, _⟩ := List.findIdx?_eq_some_iff_getElem.mp hi
  have hpl := pth_len hs F W.tab hlt
  obtain ⟨P, hP⟩ : ∃ P, P = pth (stAll near closed ws src) (i + 1) i := ⟨_, rfl⟩
  rw [← hP] at A hpl ⊢
  have hm : ∀ x y, (x, y) ∈ chgs (linksOf ws) P → y ∈ nbN near x := fun x y h => by
    rcases (chgs_mem A.nd A.out).mp h with ⟨hne, b, hc⟩ | ⟨h, _⟩
    · have hst := A.st _ _ hc
      unfold Nx at hst
      dsimp only at hst
      rcases hst with ⟨h1, h2, h3⟩ | ⟨h1, _⟩
      · exact h2
      · cases h1; exact absurd rfl hne
    · exact (W.link h).1
  have hal : ∀ x y, aftL (chgs (linksOf ws) P) x = some y → y < near.length := fun x y h => F.nb_lt x y (hm x y (aft_mem h))
  have hhl : ∀ c ∈ headsOf ws, c < near.length := fun c hc => by
    obtain ⟨w, hw, e⟩ := W.heads hc
    exact (W.op w hw c (List.mem_of_getElem? e)).2
  have nw := newWays_ok ws P a false near.length (fun w hw => ⟨W.ne w hw, (W.small hle w hw).1⟩) (by omega) A.hd (by omega) hal hhl (hs a ha) (by omega)
  obtain ⟨W2, hna⟩ := W.more (aft := aftL (chgs (linksOf ws) P)) F.no_self F.nb_lt A hg ⟨hac, hs a ha⟩ (fun x y h => aft_mem h) (fun x y h => aft_has h)
  exact ⟨_, a, nw, W2, headsOf_new _ _ _, ha, hac, hna, by simp [headsOf]⟩
end
end Law
namespace Law
open PySem L2 Q
structure GoodW (near : List (List Nat)) (closed used : List Nat) (start : Nat) (w : List Nat) : Prop where
  hd : w[0]? = some start
  nd : w.Nodup
  lk : ∀ (i x y : Nat), w[i]? = some x → w[i + 1]? = some y → y ∈ nbN near x
  op : ∀ c ∈ w, c < near.length ∧ c ∉ closed ∧ c ∉ used
theorem GoodW.one {near : List (List Nat)} {closed used : List Nat} {start : Nat} (h1 : start < near.length) (h2 : start ∉ closed) (h3 : start ∉ used) : GoodW near closed used start [start] :=
  ⟨rfl, by simp, fun i x y _ h => by simp at h, fun c hc => by obtain rfl := List.mem_singleton.mp hc; exact ⟨h1, h2, h3⟩⟩
theorem GoodW.snoc {near : List (List Nat)} {closed used : List Nat} {start : Nat} {w : List Nat} (G : GoodW near closed used start w) {z o : Nat} (hz : w.getLast? = some z) (ho : o ∈ nbN near z) (hw : o ∉ w) (h1 : o < near.length) (h2 : o ∉ closed) (h3 : o ∉ used) : GoodW near closed used start (w ++ [o]) := by
  have hl : 0 < w.length := (List.getElem?_eq_some_iff.mp G.hd).1
  have hz2 := last_at hz
  refine ⟨by rw [List.getElem?_append_left hl]; exact G.hd, ?_, fun i x y hx hy => ?_, fun c hc => ?_⟩
  · rw [List.nodup_append]
    refine ⟨G.nd, by simp, fun a ha b hb => ?_⟩
    obtain rfl := List.mem_singleton.mp hb
    exact fun e => hw (e ▸ ha)
  · by_cases hi : i + 1 < w.length
    · rw [List.getElem?_append_left hi] at hy
      rw [List.getElem?_append_left (by omega)] at hx
      exact G.lk i x y hx hy
    · have h4 := (List.getElem?_eq_some_iff.mp hy).1
      simp at h4
      have e : i = w.length - 1 := by omega
      subst e
      rw [List.getElem?_append_left (by omega), hz2] at hx
      rw [show w.length - 1 + 1 = w.length by omega, List.getElem?_append_right (Nat.le_refl _)] at hy
      simp at hy
      cases hx; rw [← hy]; exact ho
  · rcases List.mem_append.mp hc with hc | hc
    · exact G.op c hc
    · obtain rfl := List.mem_singleton.mp hc; exact ⟨h1, h2, h3⟩
theorem path_way (near : List (List Nat)) (doors closed used : List Nat) (start : Nat) (F : IsFl near doors) (hs : start < near.length) (hsc : start ∉ closed) (hsu : start ∉ used) :
    ∃ w : List Nat, res n_law_path m_law_path [.imm (.lst (dNN near)), .imm (.lst (dN closed)), .imm (.lst (dN used)), .imm (.int (start : Nat)), .imm (.lst (dN doors))] [] = some (.lst (dN w), []) ∧ w.length ≤ 31 ∧ (0 < w.length → GoodW near closed used start w ∧ ∀ z, w.getLast? = some z → z ∈ doors) := by
  have key : W m_law_path [.imm (.lst (dNN near)), .imm (.lst (dN closed)), .imm (.lst (dN used)), .imm (.int (start : Nat)), .imm (.lst (dN doors)), .un, .un, .un, .un, .un] (RtA [] fun _ d ds => ∃ w : List Nat, d = .lst (dN w) ∧ ds = [] ∧ w.length ≤ 31 ∧ (0 < w.length → GoodW near closed used start w ∧ ∀ z, w.getLast? = some z → z ∈ doors)) := by
    have hle := F.le
    unfold m_law_path
    simp -implicitDefEqProofs
    obtain ⟨P, hP⟩ := inv fun k e => ∃ (found : List (List Nat)) (met : List Nat) (s t u : Sl), e = [.imm (.lst (dNN near)), .imm (.lst (dN closed)), .imm (.lst (dN used)), .imm (.int (start : Nat)), .imm (.lst (dN doors)), .own (.lst (dNN found)), .own (.lst (dN met)), s, t, u] ∧
      found.length ≤ 1 + 30 * k ∧ met.length ≤ 1 + 30 * k ∧ ∀ w ∈ found, w ≠ [] ∧ w.length ≤ k + 1 ∧ GoodW near closed used start w ∧ ∀ c ∈ w, c ∈ met
    refine W_for (ds := rngD 0 near.length) (e0 := [.imm (.lst (dNN near)), .imm (.lst (dN closed)), .imm (.lst (dN used)), .imm (.int (start : Nat)), .imm (.lst (dN doors)), .own (.lst [.lst [.int start]]), .own (.lst [.int start]), .un, .un, .un]) (iR1_ok (by simp -implicitDefEqProofs) (by omega)) P (by
      rw [hP]; exact ⟨[[start]], [start], .un, .un, .un, rfl, by simp, by simp, by simp [GoodW.one hs hsc hsu]⟩) ?_ ?_
    · intro k d e hd h
      rw [hP] at h
      obtain ⟨found, met, s, t, u, rfl, h1, h2, h3⟩ := h
      simp -implicitDefEqProofs at hd
      obtain ⟨hk, rfl⟩ := hd
      refine ⟨[.imm (.lst (dNN near)), .imm (.lst (dN closed)), .imm (.lst (dN used)), .imm (.int (start : Nat)), .imm (.lst (dN doors)), .own (.lst (dNN found)), .own (.lst (dN met)), .imm (.int (k : Nat)), t, u], by simp -implicitDefEqProofs, ?_⟩
      by_cases hkf : k < found.length
      · have hw := h3 found[k] (List.getElem_mem hkf)
        obtain ⟨hw1, hw2, hw3, hw4⟩ := hw
        obtain ⟨way, hway⟩ : ∃ way, way = found[k] := ⟨_, rfl⟩
        rw [← hway] at hw1 hw2 hw3 hw4
        obtain ⟨last, l1, l2⟩ := atI_last (dN way) (by simpa using hw1)
        obtain ⟨z, hz, hzl, rfl⟩ : ∃ z : Nat, z < near.length ∧ way.getLast? = some z ∧ last = .int (z : Nat) := by
          rw [List.getLast?_map] at l1
          obtain ⟨z, h4, rfl⟩ := Option.map_eq_some_iff.mp l1
          exact ⟨z, (hw3.op z (List.mem_of_getLast? h4)).1, h4, rfl⟩
        have hrow := List.getElem?_eq_getElem hz
        obtain ⟨r1, r2⟩ := F.row z _ hrow
        have hfk : (dNN found)[k]? = some (.lst (dN way)) := by rw [List.getElem?_map, List.getElem?_eq_getElem hkf, hway]; rfl
        have hnz : (dNN near)[z]? = some (.lst (dN near[z])) := by rw [List.getElem?_map, hrow]; rfl
        simp -implicitDefEqProofs only [W_if, W_seq, W_asg, ap_Test, ap_Bin, ap_lVar, ap_lFix, ap_Bi, ap_bCons, ap_bNil, ap_C, lsGet_cons, lsGet_nil, len_lst, List.length_map, get_fix, get_slot, List.getElem?_cons_zero, List.getElem?_cons_succ, Option.bind_some, Option.map_some, rd_imm, rd_own, cmp_int, Gt_some, Int.ofNat_lt, hkf, decide_true, if_true, ix_lst, atI_cast, hfk, List.set_cons_zero, List.set_cons_succ, List.length_cons, List.length_nil, sqK_nx, l2, in_N, ap_Neg]
        refine ⟨by omega, ?_⟩
        by_cases hdoor : z ∈ doors
        · simp -implicitDefEqProofs [hdoor]
          exact ⟨way, by simp, by omega, fun _ => ⟨hw3, fun y hy => by rw [hzl] at hy; cases hy; exact hdoor⟩⟩
        · simp -implicitDefEqProofs only [hdoor, Bool.false_eq_true, if_false, decide_false, W_next, sqK_nx]
          obtain ⟨P2, hP2⟩ := inv fun j e => ∃ (found : List (List Nat)) (met : List Nat) (u : Sl), e = [.imm (.lst (dNN near)), .imm (.lst (dN closed)), .imm (.lst (dN used)), .imm (.int (start : Nat)), .imm (.lst (dN doors)), .own (.lst (dNN found)), .own (.lst (dN met)), .imm (.int (k : Nat)), .imm (.lst (dN way)), u] ∧
            found.length ≤ 1 + 30 * k + j ∧ met.length ≤ 1 + 30 * k + j ∧ (∀ c ∈ way, c ∈ met) ∧ ∀ w ∈ found, w ≠ [] ∧ w.length ≤ k + 2 ∧ GoodW near closed used start w ∧ ∀ c ∈ w, c ∈ met
          refine W_for (ds := dN near[z]) (e0 := [.imm (.lst (dNN near)), .imm (.lst (dN closed)), .imm (.lst (dN used)), .imm (.int (start : Nat)), .imm (.lst (dN doors)), .own (.lst (dNN found)), .own (.lst (dN met)), .imm (.int (k : Nat)), .imm (.lst (dN way)), u]) (by simp -implicitDefEqProofs [l2, hnz]) P2
            (by rw [hP2]; exact ⟨found, met, u, rfl, by omega, by omega, hw4, fun w hw => let ⟨a, b, c⟩ := h3 w hw; ⟨a, by omega, c⟩⟩) ?_ ?_
          · intro j d e hd h
            rw [hP2] at h
            obtain ⟨found, met, u, rfl, g1, g2, g4, g3⟩ := h
            rw [List.getElem?_map] at hd
            obtain ⟨o, ho, rfl⟩ := Option.map_eq_some_iff.mp hd
            have hjl : j < near[z].length := (List.getElem?_eq_some_iff.mp ho).1
            have hon : o < near.length := by
              obtain ⟨row', e1, _⟩ := r2 o (List.mem_of_getElem? ho)
              exact (List.getElem?_eq_some_iff.mp e1).1
            refine ⟨[.imm (.lst (dNN near)), .imm (.lst (dN closed)), .imm (.lst (dN used)), .imm (.int (start : Nat)), .imm (.lst (dN doors)), .own (.lst (dNN found)), .own (.lst (dN met)), .imm (.int (k : Nat)), .imm (.lst (dN way)), .imm (.int (o : Nat))], by simp -implicitDefEqProofs, ?_⟩
            have z1 : met.length < sizeLine := szL (by omega)
            have z2 : found.length < sizeLine := szL (by omega)
            have z3 : way.length + 1 ≤ sizeLine := szS (by omega)
            by_cases c1 : o ∈ closed
            · simp -implicitDefEqProofs [c1]
              rw [hP2]
              exact ⟨found, met, _, rfl, by omega, by omega, g4, g3⟩
            · by_cases c2 : o ∈ used
              · simp -implicitDefEqProofs [c1, c2]
                rw [hP2]
                exact ⟨found, met, _, rfl, by omega, by omega, g4, g3⟩
              · by_cases c3 : o ∈ met
                · simp -implicitDefEqProofs [c1, c2, c3]
                  rw [hP2]
                  exact ⟨found, met, _, rfl, by omega, by omega, g4, g3⟩
                · simp -implicitDefEqProofs [c1, c2, c3, z1, z2, z3]
                  rw [hP2]
                  refine ⟨found ++ [way ++ [o]], met ++ [o], .imm (.int o), by simp, by simp; omega, by simp; omega, fun c hc => List.mem_append_left _ (g4 c hc), fun w hw => ?_⟩
                  rcases List.mem_append.mp hw with hw | hw
                  · obtain ⟨a1, a2, a3, a4⟩ := g3 w hw
                    exact ⟨a1, a2, a3, fun x hx => List.mem_append_left _ (a4 x hx)⟩
                  · obtain rfl := List.mem_singleton.mp hw
                    refine ⟨by simp, by simp; omega, hw3.snoc hzl (by unfold nbN; rw [hrow]; exact List.mem_of_getElem? ho) (fun h => c3 (g4 o h)) hon c1 c2, fun x hx => ?_⟩
                    rcases List.mem_append.mp hx with hx | hx
                    · exact List.mem_append_left _ (g4 x hx)
                    · exact List.mem_append_right _ hx
          · intro e h
            rw [hP2] at h
            obtain ⟨found, met, u, rfl, g1, g2, g4, g3⟩ := h
            rw [List.length_map] at g1 g2
            simp -implicitDefEqProofs only [lp_nx]
            rw [hP]
            exact ⟨found, met, _, _, _, rfl, by omega, by omega, g3⟩
      · simp -implicitDefEqProofs [hkf]
        rw [hP]
        exact ⟨found, met, _, _, _, rfl, by omega, by omega, fun w hw => let ⟨a, b, c⟩ := h3 w hw; ⟨a, by omega, c⟩⟩
    · intro e h
      rw [hP] at h
      obtain ⟨found, met, s, t, u, rfl, h1, h2, h3⟩ := h
      simp -implicitDefEqProofs
  obtain ⟨d, ds, ⟨w, rfl, rfl, h1, h2⟩, h3⟩ := res_of (N := n_law_path) (js := []) (ss := [.imm (.lst (dNN near)), .imm (.lst (dN closed)), .imm (.lst (dN used)), .imm (.int (start : Nat)), .imm (.lst (dN doors))]) key
  exact ⟨w, h3, h1, h2⟩
end Law
namespace Law
open PySem L2 Q
theorem WOk.push {nb : Nat → List Nat} {n : Nat} {closed goals : List Nat} {ws : List (List Nat)} {w : List Nat} (W : WOk nb n closed goals ws) (hlk : ∀ (i x y : Nat), w[i]? = some x → w[i + 1]? = some y → y ∈ nb x) (hnd : w.Nodup) (hop : ∀ c ∈ w, c ∉ closed ∧ c < n) (hap : ∀ c ∈ w, c ∉ ws.flatten) (hne : w ≠ []) (hen : ∀ z, w.getLast? = some z → z ∈ goals) : WOk nb n closed goals (ws ++ [w]) := by
  refine ⟨fun v hv => ?_, ?_, fun v hv => ?_, fun v hv => ?_, fun v hv => ?_⟩
  · rcases List.mem_append.mp hv with hv | hv
    · exact W.ne v hv
    · obtain rfl := List.mem_singleton.mp hv; exact hne
  · rw [List.flatten_append, List.nodup_append]
    refine ⟨W.nd, by simpa using hnd, fun a ha b hb e => ?_⟩
    subst e
    exact hap a (by simpa using hb) ha
  · rcases List.mem_append.mp hv with hv | hv
    · exact W.lk v hv
    · obtain rfl := List.mem_singleton.mp hv; exact hlk
  · rcases List.mem_append.mp hv with hv | hv
    · exact W.op v hv
    · obtain rfl := List.mem_singleton.mp hv; exact hop
  · rcases List.mem_append.mp hv with hv | hv
    · exact W.en v hv
    · obtain rfl := List.mem_singleton.mp hv; exact hen
theorem greedy_way (near : List (List Nat)) (doors closed starts : List Nat) (F : IsFl near doors) (hs : ∀ c ∈ starts, c < near.length) (hl : starts.length ≤ 10) :
    ∃ ws : List (List Nat), res n_law_greedy m_law_greedy [.imm (.lst (dNN near)), .imm (.lst (dN closed)), .imm (.lst (dN doors)), .imm (.lst (dN starts))] [] = some (.lst (dNN ws), []) ∧ ws.length ≤ starts.length ∧ WOk (nbN near) near.length closed doors ws := by
  have key : W m_law_greedy [.imm (.lst (dNN near)), .imm (.lst (dN closed)), .imm (.lst (dN doors)), .imm (.lst (dN starts)), .un, .un, .un, .un] (RtA [] fun _ d ds => ∃ ws : List (List Nat), d = .lst (dNN ws) ∧ ds = [] ∧ ws.length ≤ starts.length ∧ WOk (nbN near) near.length closed doors ws) := by
    have hle := F.le
    unfold m_law_greedy
    simp -implicitDefEqProofs
    obtain ⟨P, hP⟩ := inv fun k e => ∃ (ws : List (List Nat)) (used : List Nat) (s t : Sl), e = [.imm (.lst (dNN near)), .imm (.lst (dN closed)), .imm (.lst (dN doors)), .imm (.lst (dN starts)), .own (.lst (dNN ws)), .imm (.lst (dN used)), s, t] ∧
      ws.length ≤ k ∧ used.length ≤ 31 * k ∧ used = ws.flatten ∧ WOk (nbN near) near.length closed doors ws
    refine W_for (ds := dN starts) (e0 := [.imm (.lst (dNN near)), .imm (.lst (dN closed)), .imm (.lst (dN doors)), .imm (.lst (dN starts)), .own (.lst []), .imm (.lst []), .un, .un]) (by simp -implicitDefEqProofs) P (by
      rw [hP]; exact ⟨[], [], .un, .un, rfl, by simp, by simp, rfl, WOk.nil⟩) ?_ ?_
    · intro k d e hd h
      rw [hP] at h
      obtain ⟨ws, used, s, t, rfl, h1, h2, h3⟩ := h
      rw [List.getElem?_map] at hd
      obtain ⟨o, ho, rfl⟩ := Option.map_eq_some_iff.mp hd
      have hk : k < starts.length := (List.getElem?_eq_some_iff.mp ho).1
      have hon := hs o (List.mem_of_getElem? ho)
      refine ⟨[.imm (.lst (dNN near)), .imm (.lst (dN closed)), .imm (.lst (dN doors)), .imm (.lst (dN starts)), .own (.lst (dNN ws)), .imm (.lst (dN used)), .imm (.int (o : Nat)), t], by simp -implicitDefEqProofs, ?_⟩
      by_cases c1 : o ∈ closed
      · simp -implicitDefEqProofs [c1]
        rw [hP]
        exact ⟨ws, used, _, _, rfl, by omega, by omega, h3⟩
      · by_cases c2 : o ∈ used
        · simp -implicitDefEqProofs [c1, c2]
          rw [hP]
          exact ⟨ws, used, _, _, rfl, by omega, by omega, h3⟩
        · obtain ⟨w, q1, q2, q3⟩ := path_way near doors closed used o F hon c1 c2
          have z1 : ws.length < sizeLine := szL (by omega)
          have z2 : used.length + w.length ≤ sizeLine := szS (by omega)
          by_cases c3 : 0 < w.length
          · simp -implicitDefEqProofs [c1, c2, V_eq, q1, z1, z2, c3]
            rw [hP]
            obtain ⟨G, hlast⟩ := q3 c3
            obtain ⟨hu, W⟩ := h3
            refine ⟨ws ++ [w], used ++ w, .imm (.int o), .imm (.lst (dN w)), by simp, by simp; omega, by simp; omega, by rw [hu]; simp, W.push G.lk G.nd (fun c hc => ⟨(G.op c hc).2.1, (G.op c hc).1⟩) (fun c hc h => (G.op c hc).2.2 (by rw [hu]; exact h)) (by intro z; rw [z] at c3; simp at c3) hlast⟩
          · simp -implicitDefEqProofs [c1, c2, V_eq, q1, c3]
            rw [hP]
            exact ⟨ws, used, _, _, rfl, by omega, by omega, h3⟩
    · intro e h
      rw [hP] at h
      obtain ⟨ws, used, s, t, rfl, h1, h2, h3⟩ := h
      rw [List.length_map] at h1 h2
      simp -implicitDefEqProofs
      exact ⟨ws, rfl, by omega, h3.2⟩
  obtain ⟨d, ds, ⟨w, rfl, rfl, h1, h2⟩, h3⟩ := res_of (N := n_law_greedy) (js := []) (ss := [.imm (.lst (dNN near)), .imm (.lst (dN closed)), .imm (.lst (dN doors)), .imm (.lst (dN starts))]) key
  exact ⟨w, h3, h1, h2⟩
end Law
namespace Law
open PySem L2 Q
@[simp] theorem atI_3 {α : Type} (xs : List α) : atI xs 3 = xs[3]? := by rw [atI_at _ _ (by omega)]; simp
@[simp] theorem atI_4 {α : Type} (xs : List α) : atI xs 4 = xs[4]? := by rw [atI_at _ _ (by omega)]; simp
theorem toPs_NN : ∀ xs : List (List Nat), toPs (dNN xs) = some (xs.map fun r => PyData.list (r.map fun c => PyData.int ((c : Nat) : Int)))
  | [] => rfl
  | x :: xs => by
    show (toP (.lst (dN x))).bind (fun p => (toPs (dNN xs)).map fun ps => p :: ps) = _
    have h : toP (.lst (dN x)) = some (.list (x.map fun c => PyData.int ((c : Nat) : Int))) := by unfold toP; rw [toPs_N]; rfl
    rw [h, toPs_NN xs]; rfl
theorem lays_NN : ∀ xs : List (List Nat), PyData.canLayAll0 (xs.map fun r => PyData.list (r.map fun c => PyData.int ((c : Nat) : Int))) = true ∧ PyData.depthAll (xs.map fun r => PyData.list (r.map fun c => PyData.int ((c : Nat) : Int))) ≤ 2
  | [] => ⟨rfl, by simp [PyData.depthAll]⟩
  | x :: xs => by
    obtain ⟨h1, h2⟩ := lays_NN xs
    obtain ⟨h3, h4⟩ := lays_N x
    constructor
    · simp -implicitDefEqProofs [PyData.canLayAll0, PyData.canLay0, h1, h3]
    · simp -implicitDefEqProofs [PyData.depthAll, PyData.depth]; omega
theorem eqv_NN (neg : Bool) (xs : List (List Nat)) : dEqv neg (.lst (dNN xs)) (.lst (dNN xs)) = some (.bl (!neg)) := eqv_same (toPs_NN xs) (lays_NN xs).1 (by have := (lays_NN xs).2; omega)
end Law
namespace Law
open PySem L2 Q
theorem toP_pD (p : Nat × Nat) : toP (pD p) = some (pPy p) := rfl
theorem toPs_L : ∀ xs : List (Nat × Nat), toPs (dLk xs) = some (xs.map pPy)
  | [] => rfl
  | x :: xs => by
    show (toP (pD x)).bind (fun p => (toPs (dLk xs)).map fun ps => p :: ps) = _
    rw [toPs_L xs, toP_pD]; rfl
theorem lay_pD (p : Nat × Nat) : PyData.canLay0 (pPy p) = true ∧ PyData.depth (pPy p) ≤ 1 := ⟨rfl, by simp [pPy, PyData.depth, PyData.depthAll]⟩
theorem lays_L : ∀ xs : List (Nat × Nat), PyData.canLayAll0 (xs.map pPy) = true ∧ PyData.depthAll (xs.map pPy) ≤ 2
  | [] => ⟨rfl, by simp [PyData.depthAll]⟩
  | x :: xs => by
    obtain ⟨h1, h2⟩ := lays_L xs
    obtain ⟨h3, h4⟩ := lay_pD x
    constructor
    · simp -implicitDefEqProofs [PyData.canLayAll0, h1, h3]
    · simp -implicitDefEqProofs [PyData.depthAll]; omega
theorem shaped_pD (p : Nat × Nat) : SeqAt.shaped (pPy p) = true := by
  obtain ⟨h3, h4⟩ := lay_pD p
  unfold SeqAt.shaped; rw [h3, Bool.true_and]; exact decide_eq_true (by omega)
theorem shaped_L (xs : List (Nat × Nat)) : SeqAt.shaped (.list (xs.map pPy)) = true := by
  obtain ⟨h3, h4⟩ := lays_L xs
  unfold SeqAt.shaped
  have h1 : PyData.canLay0 (.list (xs.map pPy)) = true := by simp -implicitDefEqProofs [PyData.canLay0, h3]
  have h2 : PyData.depth (.list (xs.map pPy)) ≤ 64 := by simp -implicitDefEqProofs [PyData.depth]; omega
  rw [h1, Bool.true_and]; exact decide_eq_true h2
theorem eqv_pPy (p q : Nat × Nat) : PyData.eqv (pPy p) (pPy q) = decide (p = q) := by
  obtain ⟨a, b⟩ := p
  obtain ⟨c, d⟩ := q
  have h1 : PyData.eqv (pPy (a, b)) (pPy (c, d)) = (decide ((a : Int) = (c : Int)) && decide ((b : Int) = (d : Int))) := by
    simp -implicitDefEqProofs [pPy, PyData.eqv, PyData.eqvAll]
    first | done | rfl | (rw [Bool.eq_iff_iff]; simp)
  rw [h1, Bool.eq_iff_iff]
  simp only [Bool.and_eq_true, decide_eq_true_eq, Prod.mk.injEq]
  constructor
  · rintro ⟨h2, h3⟩; exact ⟨by omega, by omega⟩
  · rintro ⟨h2, h3⟩; exact ⟨by omega, by omega⟩
theorem any_L (t : Nat × Nat) : ∀ xs : List (Nat × Nat), (xs.map pPy).any (fun z => PyData.eqv z (pPy t)) = decide (t ∈ xs)
  | [] => by simp
  | x :: xs => by
    rw [List.map_cons, List.any_cons, any_L t xs, eqv_pPy]
    by_cases h : x = t
    · simp [h]
    · have h2 : ¬ t = x := fun z => h z.symm
      simp [h, h2]
theorem inP_L (neg : Bool) (t : Nat × Nat) (xs : List (Nat × Nat)) : dInP neg (pD t) (.lst (dLk xs)) = some (.bl (if neg then !decide (t ∈ xs) else decide (t ∈ xs))) := by
  have h : toP (.lst (dLk xs)) = some (.list (xs.map pPy)) := by unfold toP; rw [toPs_L]; rfl
  unfold dInP
  simp only [toP_pD, toPs_L, h, Option.bind_some, shaped_pD, shaped_L, Bool.and_self, if_true, any_L]
theorem eqv_L (neg : Bool) (xs : List (Nat × Nat)) : dEqv neg (.lst (dLk xs)) (.lst (dLk xs)) = some (.bl (!neg)) := eqv_same (toPs_L xs) (lays_L xs).1 (by have := (lays_L xs).2; omega)
end Law
namespace Law
open PySem L2 Q
theorem zip_tail_take {w : List Nat} {k x y : Nat} (h1 : w[k]? = some x) (h2 : w[k + 1]? = some y) : (w.zip w.tail).take (k + 1) = (w.zip w.tail).take k ++ [(x, y)] := by
  rw [List.take_succ]
  congr 1
  have : (w.zip w.tail)[k]? = some (x, y) := List.getElem?_zip_eq_some.mpr ⟨h1, by rw [List.getElem?_tail]; exact h2⟩
  rw [this]; rfl
theorem lawLinks_ok (ws : List (List Nat)) (hw : ∀ w ∈ ws, w ≠ [] ∧ w.length ≤ 31) (hl : ws.length ≤ 20) : res n_law_links m_law_links [.imm (.lst (dNN ws))] [] = some (.lst (dLk (linksOf ws)), []) := by
  refine res_eq ?_
  show W m_law_links [.imm (.lst (dNN ws)), .un, .un, .un] _
  unfold m_law_links
  simp -implicitDefEqProofs
  obtain ⟨P, hP⟩ := inv fun k e => ∃ (s t : Sl) (L : List (Nat × Nat)), e = [.imm (.lst (dNN ws)), .own (.lst (dLk L)), s, t] ∧ L = linksOf (ws.take k) ∧ L.length ≤ 31 * k
  refine W_for (ds := dNN ws) (e0 := [.imm (.lst (dNN ws)), .own (.lst []), .un, .un]) (by simp -implicitDefEqProofs) P (by rw [hP]; exact ⟨.un, .un, [], rfl, by simp [linksOf], by simp⟩) ?_ ?_
  · intro k d e hd h0
    rw [hP] at h0
    obtain ⟨s, t, L, rfl, hL, hLl⟩ := h0
    rw [List.getElem?_map] at hd
    obtain ⟨w, hwk, rfl⟩ := Option.map_eq_some_iff.mp hd
    obtain ⟨hne, hw31⟩ := hw w (List.mem_of_getElem? hwk)
    have hkl := (List.getElem?_eq_some_iff.mp hwk).1
    have hpos := List.length_pos_iff.mpr hne
    have hnext : linksOf (ws.take (k + 1)) = L ++ w.zip w.tail := by
      rw [List.take_succ, hwk, hL]
      show linksOf (ws.take k ++ [w]) = _
      unfold linksOf
      rw [List.flatMap_append]; simp
    have hlen : (dN w).length = w.length := by simp
    have hat : ∀ j : Nat, j < w.length → ∃ x, w[j]? = some x ∧ (dN w)[j]? = some (.int (x : Nat)) := fun j hj => ⟨_, List.getElem?_eq_getElem hj, by rw [List.getElem?_map, List.getElem?_eq_getElem hj]; rfl⟩
    obtain ⟨X, hX⟩ : ∃ X, X = dN w := ⟨_, rfl⟩
    rw [← hX] at hlen hat ⊢
    have hsub : (((X.length : Nat) : Int) - 1) = ((w.length - 1 : Nat) : Int) := by rw [hlen]; omega
    obtain ⟨Y, hY⟩ : ∃ Y, Y = dNN ws := ⟨_, rfl⟩
    rw [← hY]
    refine ⟨[.imm (.lst Y), .own (.lst (dLk L)), .imm (.lst X), t], by simp -implicitDefEqProofs, ?_⟩
    obtain ⟨P2, hP2⟩ := inv fun j e => ∃ (t : Sl) (M : List (Nat × Nat)), e = [.imm (.lst Y), .own (.lst (dLk M)), .imm (.lst X), t] ∧ M = L ++ (w.zip w.tail).take j ∧ M.length ≤ L.length + j
    refine W_for (ds := rngD 0 (w.length - 1)) (e0 := [.imm (.lst Y), .own (.lst (dLk L)), .imm (.lst X), t]) (iR1_ok (n := w.length - 1) (by simp -implicitDefEqProofs [hsub]) (by omega)) P2 (by rw [hP2]; exact ⟨t, L, rfl, by simp, by omega⟩) ?_ ?_
    · intro j d e hd h0
      rw [hP2] at h0
      obtain ⟨t, M, rfl, hM, hMl⟩ := h0
      simp -implicitDefEqProofs at hd
      obtain ⟨hj, rfl⟩ := hd
      obtain ⟨x, hx, dx⟩ := hat j (by omega)
      obtain ⟨y, hy, dy⟩ := hat (j + 1) (by omega)
      have cj : ((j : Nat) : Int) + 1 = ((j + 1 : Nat) : Int) := by omega
      have z : M.length < sizeLine := szL (by omega)
      have ai : atI X ((j : Nat) : Int) = some (.int (x : Nat)) := by rw [atI_at _ _ (by omega)]; simpa using dx
      have ai2 : atI X (((j : Nat) : Int) + 1) = some (.int (y : Nat)) := by rw [cj, atI_at _ _ (by omega)]; simpa using dy
      refine ⟨[.imm (.lst Y), .own (.lst (dLk M)), .imm (.lst X), .imm (.int (j : Nat))], by simp -implicitDefEqProofs, ?_⟩
      simp -implicitDefEqProofs [ai, ai2, z]
      rw [hP2]
      refine ⟨.imm (.int (j : Nat)), M ++ [(x, y)], by simp, ?_, by simp; omega⟩
      rw [hM, zip_tail_take hx hy, List.append_assoc]
    · intro e h0
      rw [hP2] at h0
      obtain ⟨t, M, rfl, hM, hMl⟩ := h0
      simp -implicitDefEqProofs at hM hMl ⊢
      rw [hP]
      refine ⟨.imm (.lst X), t, M, by rw [← hY], ?_, ?_⟩
      · rw [hnext, hM, List.take_of_length_le (by rw [List.length_zip, List.length_tail]; omega)]
      · omega
  · intro e h0
    rw [hP] at h0
    obtain ⟨s, t, L, rfl, hL, hLl⟩ := h0
    rw [List.length_map, List.take_length] at hL
    subst hL
    simp -implicitDefEqProofs
end Law
namespace Law
open PySem L2 Q
/-- the links that are not among others -/
theorem keep_lc {env e0 : En} {j : Nat} (L G : List (Nat × Nat)) {mi : MI} (hn : L.length ≤ 1000) (hi : mi env = some (dLk L, e0)) (hj : ∃ s, e0[j]? = some s ∧ s.calm = true) {mt : MT}
    (hmt : ∀ p : Nat × Nat, mt (e0.set j (.imm (pD p))) = some (!decide (p ∈ G), e0.set j (.imm (pD p)))) :
    mLc [j] mi (gN j) mt (mVar j) env = some (.lst (dLk (L.filter fun l => !decide (l ∈ G))), e0) := by
  obtain ⟨s, hs, hc⟩ := hj
  have hlt : j < e0.length := (List.getElem?_eq_some_iff.mp hs).1
  have hself : e0.set j s = e0 := by
    obtain ⟨h, rfl⟩ := List.getElem?_eq_some_iff.mp hs
    exact List.set_getElem_self h
  obtain ⟨acc, e2, hlc, ⟨t2, rfl⟩, hl⟩ := lc_ok (vs := [j]) (mi := mi) (gf := gN j) (mt := mt) (me := mVar j) (env := env) (e0 := e0) (ds := dLk L)
    hi (by simp -implicitDefEqProofs [calmAt, hs, hc]) (by simp -implicitDefEqProofs; omega) (fun e => ∃ t, e = e0.set j t) (fun n acc => acc = dLk ((L.take n).filter fun l => !decide (l ∈ G))) ⟨s, hself.symm⟩ rfl (by
      rintro n d e acc hd ⟨t, rfl⟩ rfl
      rw [List.getElem?_map] at hd
      obtain ⟨p, hp, rfl⟩ := Option.map_eq_some_iff.mp hd
      have htk : L.take (n + 1) = L.take n ++ [p] := by rw [List.take_succ, hp]; rfl
      refine ⟨e0.set j (.imm (pD p)), !decide (p ∈ G), e0.set j (.imm (pD p)), by simp -implicitDefEqProofs [wipeE, hlt], hmt p, fun hq => ⟨pD p, e0.set j (.imm (pD p)), by simp -implicitDefEqProofs [hlt], ⟨_, rfl⟩, ?_⟩, fun hq => ⟨⟨_, rfl⟩, ?_⟩⟩
      · rw [htk, List.filter_append]
        have : ([p].filter fun l => !decide (l ∈ G)) = [p] := by rw [List.filter_cons, if_pos hq]; rfl
        rw [this]; simp
      · rw [htk, List.filter_append]
        have : ([p].filter fun l => !decide (l ∈ G)) = [] := by rw [List.filter_cons, if_neg (by rw [hq]; simp)]; rfl
        rw [this]; simp)
  rw [hlc, hl]
  rw [List.length_map, List.take_length]
  simp -implicitDefEqProofs [backE, wipeE, hs, hself]
theorem gn_step {P : List Spt} {k : Nat} {s t : Spt} (h1 : P[k]? = some s) (h2 : P[k + 1]? = some t) : goneL (P.take (k + 2)) = goneL (P.take (k + 1)) ++ gon1 s t ∧ newsL (P.take (k + 2)) = newsL (P.take (k + 1)) ++ new1 s t := by
  obtain ⟨e1, e2⟩ := take_two h1 h2
  rw [e1, e2]
  exact ⟨gone_snoc _ _ _, news_snoc _ _ _⟩
theorem lawChanged_ok (L : List (Nat × Nat)) (P : List Spt) (hne : P ≠ []) (hl : L.length + P.length ≤ 900) : res n_law_changed m_law_changed [.imm (.lst (dLk L)), .imm (.lst (dSp P))] [] = some (.lst (dLk ((L.filter fun l => !decide (l ∈ goneL P)) ++ newsL P)), []) := by
  refine res_eq ?_
  show W m_law_changed [.imm (.lst (dLk L)), .imm (.lst (dSp P)), .un, .un, .un, .un, .un, .un] _
  unfold m_law_changed
  have hpos : 0 < P.length := List.length_pos_iff.mpr hne
  have hlen : (dSp P).length = P.length := by simp
  have hat : ∀ j : Nat, j < P.length → ∃ x : Spt, P[j]? = some x ∧ (dSp P)[j]? = some (spD x) := fun j hj => ⟨_, List.getElem?_eq_getElem hj, by rw [List.getElem?_map, List.getElem?_eq_getElem hj]; rfl⟩
  obtain ⟨X, hX⟩ : ∃ X, X = dSp P := ⟨_, rfl⟩
  rw [← hX] at hlen hat ⊢
  have hsub : (((X.length : Nat) : Int) - 1) = ((P.length - 1 : Nat) : Int) := by rw [hlen]; omega
  obtain ⟨Y, hY⟩ : ∃ Y, Y = dLk L := ⟨_, rfl⟩
  rw [← hY]
  have p1 : P.take 1 = [P[0]] := by
    cases P with
    | nil => exact absurd rfl hne
    | cons p P => rfl
  simp -implicitDefEqProofs
  obtain ⟨Pv, hP⟩ := inv fun k e => ∃ (G N : List (Nat × Nat)) (s t u : Sl), e = [.imm (.lst Y), .imm (.lst X), .own (.lst (dLk G)), .own (.lst (dLk N)), s, t, u, .un] ∧ G = goneL (P.take (k + 1)) ∧ N = newsL (P.take (k + 1)) ∧ G.length ≤ k ∧ N.length ≤ k
  refine W_for (ds := rngD 0 (P.length - 1)) (e0 := [.imm (.lst Y), .imm (.lst X), .own (.lst []), .own (.lst []), .un, .un, .un, .un]) (iR1_ok (n := P.length - 1) (by simp -implicitDefEqProofs [hsub]) (by omega)) Pv (by rw [hP]; exact ⟨[], [], _, _, _, rfl, by rw [p1]; rfl, by rw [p1]; rfl, by simp, by simp⟩) ?_ ?_
  · intro k d e hd h0
    rw [hP] at h0
    obtain ⟨G, N, s, t, u, rfl, hG, hN, hGl, hNl⟩ := h0
    simp -implicitDefEqProofs at hd
    obtain ⟨hk, rfl⟩ := hd
    obtain ⟨⟨c, o⟩, e1, dx⟩ := hat k (by omega)
    obtain ⟨⟨c2, o2⟩, e2, dy⟩ := hat (k + 1) (by omega)
    obtain ⟨g1, g2⟩ := gn_step e1 e2
    rw [← hG] at g1
    rw [← hN] at g2
    have cj : ((k : Nat) : Int) + 1 = ((k + 1 : Nat) : Int) := by omega
    have z1 : G.length < sizeLine := szL (by omega)
    have z2 : N.length < sizeLine := szL (by omega)
    have ai : atI X ((k : Nat) : Int) = some (spD (c, o)) := by rw [atI_at _ _ (by omega)]; simpa using dx
    have ai2 : atI X (((k : Nat) : Int) + 1) = some (spD (c2, o2)) := by rw [cj, atI_at _ _ (by omega)]; simpa using dy
    refine ⟨[.imm (.lst Y), .imm (.lst X), .own (.lst (dLk G)), .own (.lst (dLk N)), .imm (.int (k : Nat)), t, u, .un], by simp -implicitDefEqProofs, ?_⟩
    have q0 : dEqv true (.int (c : Nat)) (.int (c2 : Nat)) = some (.bl (!decide (c = c2))) := by rw [eqv_int]; simp; omega
    by_cases hcc : c = c2
    · rw [decT hcc] at q0
      have w1 : gon1 (c, o) (c2, o2) = [] := by unfold gon1; rw [if_neg (by simp [hcc])]
      have w2 : new1 (c, o) (c2, o2) = [] := by unfold new1; rw [if_neg (by simp [hcc])]
      rw [w1, List.append_nil] at g1
      rw [w2, List.append_nil] at g2
      simp -implicitDefEqProofs [ai, ai2, q0]
      rw [hP]
      exact ⟨G, N, _, _, _, rfl, g1.symm, g2.symm, by omega, by omega⟩
    · rw [decF hcc] at q0
      cases o with
      | true =>
        have w1 : gon1 (c, true) (c2, o2) = [] := by unfold gon1; rw [if_neg (by simp)]
        have w2 : new1 (c, true) (c2, o2) = [(c, c2)] := by unfold new1; rw [if_pos ⟨hcc, rfl⟩]
        rw [w1, List.append_nil] at g1
        rw [w2] at g2
        simp -implicitDefEqProofs [ai, ai2, q0, z2]
        rw [hP]
        exact ⟨G, N ++ [(c, c2)], .imm (.int (k : Nat)), .imm (spD (c, true)), .imm (spD (c2, o2)), by simp, g1.symm, g2.symm, by omega, by simp; omega⟩
      | false =>
        have w1 : gon1 (c, false) (c2, o2) = [(c2, c)] := by unfold gon1; rw [if_pos ⟨hcc, rfl⟩]
        have w2 : new1 (c, false) (c2, o2) = [] := by unfold new1; rw [if_neg (by simp)]
        rw [w1] at g1
        rw [w2, List.append_nil] at g2
        simp -implicitDefEqProofs [ai, ai2, q0, z1]
        rw [hP]
        exact ⟨G ++ [(c2, c)], N, .imm (.int (k : Nat)), .imm (spD (c, false)), .imm (spD (c2, o2)), by simp, g1.symm, g2.symm, by simp; omega, by omega⟩
  · intro e h0
    rw [hP] at h0
    obtain ⟨G, N, s, t, u, rfl, hG, hN, hGl, hNl⟩ := h0
    simp -implicitDefEqProofs at hG hN hGl hNl
    rw [show P.length - 1 + 1 = P.length by omega, List.take_length] at hG hN
    have inp := fun p => inP_L true p G
    have lc := keep_lc (env := [.imm (.lst Y), .imm (.lst X), .own (.lst (dLk G)), .own (.lst (dLk N)), s, t, u, .un]) (e0 := [.imm (.lst Y), .imm (.lst X), .own (.lst (dLk G)), .own (.lst (dLk N)), s, t, u, .un]) (j := 7) L G (mi := iAny (mVar 0)) (mt := mTest (mBin (dInP true) (lVar 7) (lVar 2))) (by omega) (by rw [← hY]; simp -implicitDefEqProofs) ⟨.un, rfl, rfl⟩ (fun p => by
      have q := inp p
      obtain ⟨Z, hZ⟩ : ∃ Z, Z = dLk G := ⟨_, rfl⟩
      obtain ⟨pp, hpp⟩ : ∃ pp, pp = pD p := ⟨_, rfl⟩
      rw [← hZ, ← hpp] at q
      rw [← hZ, ← hpp]
      simp -implicitDefEqProofs [q])
    have hfl := List.length_filter_le (fun l => !decide (l ∈ G)) L
    have hsz : (dLk (L.filter fun l => !decide (l ∈ G))).length + (dLk N).length ≤ sizeLine := szS (by rw [List.length_map, List.length_map]; omega)
    rw [← hG, ← hN]
    change sqK _ (RtA [] fun x d ds => d = D.lst (dLk (L.filter fun l => !decide (l ∈ G)) ++ dLk N) ∧ ds = []) _
    obtain ⟨A, hA⟩ : ∃ A, A = dLk (L.filter fun l => !decide (l ∈ G)) := ⟨_, rfl⟩
    obtain ⟨B, hB⟩ : ∃ B, B = dLk N := ⟨_, rfl⟩
    rw [← hA] at lc hsz ⊢
    rw [← hB] at lc hsz ⊢
    simp -implicitDefEqProofs [lc, hsz]
end Law
namespace Law
open PySem L2 Q
theorem explore_ok_b (near sts ws : List (List Nat)) (doors closed starts : List Nat) (F : IsFl near doors) (hwl : ws.length ≤ 10) (hww : ∀ w ∈ ws, w.length ≤ 31 ∧ ∀ c ∈ w, c < near.length) (hT : ∀ p ∈ ahT ws, p.1 < near.length ∧ ∀ x, p.2 = some x → x < near.length) (hs : ∀ c ∈ starts, c < near.length) (hl : starts.length ≤ 10) :
    res n_explore m_explore [.imm (flD near doors sts), .imm (.lst (dN closed)), .imm (.lst (dNN ws)), .bor (.lst (dN starts))] [] =
      some (.tup [.lst (dSp (bfs (nextS near closed (ahT ws)) (st0S starts closed) (2 * near.length)).1), .lst (dPa (bfs (nextS near closed (ahT ws)) (st0S starts closed) (2 * near.length)).2)], []) := by
  have hle := F.le
  have hf : ∀ s : Spt, s.1 < near.length → ∀ t ∈ nextS near closed (ahT ws) s, t.1 < near.length := fun s h => nextS_lt near doors closed (ahT ws) F hT s h
  have hok := bfs_ok hf (st0_ok (closed := closed) hs)
  have hnx : ∀ s : Spt, s.1 < near.length → res n_next_spots m_next_spots [.imm (flD near doors sts), .imm (.lst (dN closed)), .imm (tabD fN (ahT ws)), .imm (spD s)] [] = some (.lst (dSp (nextS near closed (ahT ws) s)), []) := fun s h => next_ok near sts doors closed (ahT ws) F s h
  have hah := ahead_ok ws hwl fun w hw => (hww w hw).1
  obtain ⟨f, hfe⟩ : ∃ f, f = nextS near closed (ahT ws) := ⟨_, rfl⟩
  obtain ⟨tb, htb⟩ : ∃ tb, tb = tabD fN (ahT ws) := ⟨_, rfl⟩
  obtain ⟨fo, hfo⟩ : ∃ fo, fo = flD near doors sts := ⟨_, rfl⟩
  rw [← hfe] at hf hok hnx ⊢
  rw [← htb] at hnx hah
  rw [← hfo] at hnx ⊢
  refine res_eq ?_
  show W m_explore [.imm fo, .imm (.lst (dN closed)), .imm (.lst (dNN ws)), .bor (.lst (dN starts)), .un, .un, .un, .un, .un, .un, .un, .un, .un] _
  have hal : (ascN starts).length ≤ near.length := pigeon _ _ (ascN_nodup starts) fun c hc => hs c (ascN_mem hc)
  have ho : (opens (ascN starts) closed).length ≤ 30 := by
    unfold opens; rw [List.length_map]
    have := List.length_filter_le (fun o => !decide (o ∈ closed)) (ascN starts)
    omega
  have hnd0 : (opens (ascN starts) closed).Nodup := (st0_ok (n := near.length) (closed := closed) hs).nd
  have hso := setSort_N starts (by omega)
  have l1 := opens_lc (env := [.imm fo, .imm (.lst (dN closed)), .imm (.lst (dNN ws)), .bor (.lst (dN starts)), .imm tb, .un, .un, .un, .un, .un, .un, .un, .un]) (k := 1) (j := 11) (mi := iAny (mBi dSetSort (bCons (lVar 3) bNil))) (ascN starts) closed (by omega) (by simp -implicitDefEqProofs [hso]) rfl (by decide) ⟨.un, rfl, rfl⟩
  have l2 := nones_lcP (env := [.imm fo, .imm (.lst (dN closed)), .imm (.lst (dNN ws)), .bor (.lst (dN starts)), .imm tb, .own (.lst (dSp (opens (ascN starts) closed))), .un, .un, .un, .un, .un, .un, .un]) (w := 5) (j := 12) (xs := dSp (opens (ascN starts) closed)) (by rw [List.length_map]; omega) rfl (by decide) ⟨.un, rfl, rfl⟩
  have l3 := seen_dnP (env := [.imm fo, .imm (.lst (dN closed)), .imm (.lst (dNN ws)), .bor (.lst (dN starts)), .imm tb, .own (.lst (dSp (opens (ascN starts) closed))), .own (.lst ((dSp (opens (ascN starts) closed)).map fun _ => .non)), .un, .un, .un, .un, .un, .un]) (w := 5) (j := 10) (xs := opens (ascN starts) closed) (by omega) hnd0 rfl (by decide) ⟨.un, rfl, rfl⟩
  have l4 : mCallV n_ahead_table 1 m_ahead_table (cImm (mVar 2) cNil) [.imm fo, .imm (.lst (dN closed)), .imm (.lst (dNN ws)), .bor (.lst (dN starts)), .un, .un, .un, .un, .un, .un, .un, .un, .un] = some (tb, [.imm fo, .imm (.lst (dN closed)), .imm (.lst (dNN ws)), .bor (.lst (dN starts)), .un, .un, .un, .un, .un, .un, .un, .un, .un]) := by
    simp -implicitDefEqProofs [V_eq, hah]
  unfold m_explore
  simp -implicitDefEqProofs only [W_seq, W_asgF, W_asg, l4, l1, Gt_some, sqK_nx, List.set_cons_zero, List.set_cons_succ, List.length_cons, List.length_nil, l2, l3, ap_C, Nat.reduceLT, Nat.reduceAdd, true_and]
  obtain ⟨P, hP⟩ := inv fun r e => ∃ (k : Nat) (s t u v : Sl), r + k = 2 * near.length ∧ e = [.imm fo, .imm (.lst (dN closed)), .imm (.lst (dNN ws)), .bor (.lst (dN starts)), .imm tb, .own (.lst (dSp (bfs f (st0S starts closed) k).1)), .own (.lst (dPa (bfs f (st0S starts closed) k).2)), .own (seenD (bfs f (st0S starts closed) k).1), .imm (.int (k : Nat)), s, t, u, v]
  refine W_wh P (2 * near.length) (by
    rw [hP]; refine ⟨0, .un, .un, .un, .un, rfl, ?_⟩; simp -implicitDefEqProofs [bfs, st0S, fN]) (show 2 * near.length < 10000 by omega) ?_
  intro r e h
  rw [hP] at h
  obtain ⟨k, s, t, u, v, hrk, rfl⟩ := h
  have hokk := hok k
  have hsm := hokk.small
  have hbat := fun s => bfs_at (f := f) (st0 := st0S starts closed) (k := k) (s := s)
  have hstop : (bfs f (st0S starts closed) k).1.length ≤ k → bfs f (st0S starts closed) (k + r) = bfs f (st0S starts closed) k := fun h => bfs_stop h r
  obtain ⟨st, hst⟩ : ∃ st, st = bfs f (st0S starts closed) k := ⟨_, rfl⟩
  rw [← hst] at hokk hsm hbat hstop ⊢
  refine ⟨decide (k < st.1.length), [.imm fo, .imm (.lst (dN closed)), .imm (.lst (dNN ws)), .bor (.lst (dN starts)), .imm tb, .own (.lst (dSp st.1)), .own (.lst (dPa st.2)), .own (seenD st.1), .imm (.int (k : Nat)), s, t, u, v], by simp -implicitDefEqProofs, fun hq => ?_, fun hq => ?_⟩
  · have hkl : k < st.1.length := of_decide_eq_true hq
    refine ⟨r - 1, by omega, ?_⟩
    have hat := List.getElem?_eq_getElem hkl
    obtain ⟨sp, hsp⟩ : ∃ sp, sp = st.1[k] := ⟨_, rfl⟩
    rw [← hsp] at hat
    have hspn : sp.1 < near.length := hokk.lt sp (List.mem_of_getElem? hat)
    have hbat := hbat sp hat
    have hn1 := hnx sp hspn
    have hft := hf sp hspn
    have hkd : (dSp st.1)[k]? = some (spD sp) := by rw [List.getElem?_map, hat]; rfl
    have l5 : mCallV n_next_spots 4 m_next_spots (cBor 0 (cBor 1 (cBor 4 (cImm (mBin dIx (lVar 5) (lVar 8)) cNil)))) [.imm fo, .imm (.lst (dN closed)), .imm (.lst (dNN ws)), .bor (.lst (dN starts)), .imm tb, .own (.lst (dSp st.1)), .own (.lst (dPa st.2)), .own (seenD st.1), .imm (.int (k : Nat)), s, t, u, v] = some (.lst (dSp (f sp)), [.imm fo, .imm (.lst (dN closed)), .imm (.lst (dNN ws)), .bor (.lst (dN starts)), .imm tb, .own (.lst (dSp st.1)), .own (.lst (dPa st.2)), .own (seenD st.1), .imm (.int (k : Nat)), s, t, u, v]) := by
      simp -implicitDefEqProofs [V_eq, hkd, hn1]
    simp -implicitDefEqProofs only [W_seq, W_asg, l5, Gt_some, sqK_nx, List.set_cons_zero, List.set_cons_succ, List.length_cons, List.length_nil, Nat.reduceLT, Nat.reduceAdd, true_and]
    obtain ⟨P2, hP2⟩ := inv fun j e => ∃ (t u v : Sl), e = [.imm fo, .imm (.lst (dN closed)), .imm (.lst (dNN ws)), .bor (.lst (dN starts)), .imm tb, .own (.lst (dSp (((f sp).take j).foldl (addS k) st).1)), .own (.lst (dPa (((f sp).take j).foldl (addS k) st).2)), .own (seenD (((f sp).take j).foldl (addS k) st).1), .imm (.int (k : Nat)), .imm (.lst (dSp (f sp))), t, u, v]
    refine W_for (ds := dSp (f sp)) (e0 := [.imm fo, .imm (.lst (dN closed)), .imm (.lst (dNN ws)), .bor (.lst (dN starts)), .imm tb, .own (.lst (dSp st.1)), .own (.lst (dPa st.2)), .own (seenD st.1), .imm (.int (k : Nat)), .imm (.lst (dSp (f sp))), t, u, v]) (by simp -implicitDefEqProofs) P2 (by rw [hP2]; exact ⟨t, u, v, rfl⟩) ?_ ?_
    · intro j d e hd h
      rw [hP2] at h
      obtain ⟨t, u, v, rfl⟩ := h
      rw [List.getElem?_map] at hd
      obtain ⟨x, hx, rfl⟩ := Option.map_eq_some_iff.mp hd
      have hok2 : OkS near.length (((f sp).take j).foldl (addS k) st) := foldS_ok _ hokk fun t ht => hft t (List.mem_of_mem_take ht)
      have hsm2 := hok2.small
      have hlen2 := hok2.len
      have hsucc := fold_succ (k := k) (st := st) hx
      obtain ⟨S, hS⟩ : ∃ S, S = ((f sp).take j).foldl (addS k) st := ⟨_, rfl⟩
      rw [← hS] at hok2 hsm2 hlen2 hsucc ⊢
      refine ⟨[.imm fo, .imm (.lst (dN closed)), .imm (.lst (dNN ws)), .bor (.lst (dN starts)), .imm tb, .own (.lst (dSp S.1)), .own (.lst (dPa S.2)), .own (seenD S.1), .imm (.int (k : Nat)), .imm (.lst (dSp (f sp))), .imm (spD x), u, v], by simp -implicitDefEqProofs, ?_⟩
      have z1 : S.1.length < sizeLine := szL (by omega)
      have z2 : S.2.length < sizeLine := szL (by omega)
      have hin := inN_sp true x S.1
      have hadd : addS k S x = if x ∈ S.1 then S else (S.1 ++ [x], S.2 ++ [some k]) := rfl
      have l6 : mTest (mBin (dInN true) (lVar 10) (lVar 7)) [.imm fo, .imm (.lst (dN closed)), .imm (.lst (dNN ws)), .bor (.lst (dN starts)), .imm tb, .own (.lst (dSp S.1)), .own (.lst (dPa S.2)), .own (seenD S.1), .imm (.int (k : Nat)), .imm (.lst (dSp (f sp))), .imm (spD x), u, v] = some (!decide (x ∈ S.1), [.imm fo, .imm (.lst (dN closed)), .imm (.lst (dNN ws)), .bor (.lst (dN starts)), .imm tb, .own (.lst (dSp S.1)), .own (.lst (dPa S.2)), .own (seenD S.1), .imm (.int (k : Nat)), .imm (.lst (dSp (f sp))), .imm (spD x), u, v]) := by
        obtain ⟨sd, hsd⟩ : ∃ sd, sd = seenD S.1 := ⟨_, rfl⟩
        rw [← hsd] at hin ⊢
        simp -implicitDefEqProofs [hin]
      rw [W_if, l6, Gt_some]
      by_cases hm : x ∈ S.1
      · rw [if_pos hm] at hadd
        simp -implicitDefEqProofs only [hm, decide_true, Bool.not_true, Bool.false_eq_true, if_false, W_next, lp_nx]
        rw [hP2]
        dsimp only
        rw [hsucc, hadd]
        exact ⟨_, _, _, rfl⟩
      · rw [if_neg hm] at hadd
        simp -implicitDefEqProofs only [hm, decide_false, Bool.not_false, if_true]
        rw [W_seq]
        refine W_putSeen (xs := S.1) (t := x) (env1 := [.imm fo, .imm (.lst (dN closed)), .imm (.lst (dNN ws)), .bor (.lst (dN starts)), .imm tb, .own (.lst (dSp S.1)), .own (.lst (dPa S.2)), .own (seenD S.1), .imm (.int (k : Nat)), .imm (.lst (dSp (f sp))), .imm (spD x), u, v]) (env2 := [.imm fo, .imm (.lst (dN closed)), .imm (.lst (dNN ws)), .bor (.lst (dN starts)), .imm tb, .own (.lst (dSp S.1)), .own (.lst (dPa S.2)), .own (seenD S.1), .imm (.int (k : Nat)), .imm (.lst (dSp (f sp))), .imm (spD x), u, v]) rfl rfl rfl rfl (by omega) hm ?_
        obtain ⟨sd, hsd⟩ : ∃ sd, sd = seenD (S.1 ++ [x]) := ⟨_, rfl⟩
        rw [← hsd]
        simp -implicitDefEqProofs [z1, z2]
        rw [hP2]
        dsimp only
        rw [hsucc, hadd]
        exact ⟨.imm (spD x), u, v, by simp -implicitDefEqProofs [fN, hsd]⟩
    · intro e h
      rw [hP2] at h
      obtain ⟨t, u, v, rfl⟩ := h
      rw [List.length_map, List.take_length, ← hbat]
      obtain ⟨sd, hsd⟩ : ∃ sd, sd = seenD (bfs f (st0S starts closed) (k + 1)).1 := ⟨_, rfl⟩
      rw [← hsd]
      simp -implicitDefEqProofs
      rw [hP]
      exact ⟨k + 1, _, _, _, _, by omega, by rw [hsd]; rfl⟩
  · have hkl : ¬ k < st.1.length := of_decide_eq_false hq
    have hstop := hstop (by omega)
    rw [show k + r = 2 * near.length by omega] at hstop
    obtain ⟨sd, hsd⟩ : ∃ sd, sd = seenD st.1 := ⟨_, rfl⟩
    rw [← hsd, hstop]
    simp -implicitDefEqProofs
end Law
namespace Law
open PySem L2 Q
/-- where the links of a cell lead -/
theorem ahead_lc {env e0 : En} {j : Nat} (L : List (Nat × Nat)) (x : Nat) {mi : MI} (hn : L.length ≤ 1000) (hi : mi env = some (dLk L, e0)) (hj : ∃ s, e0[j]? = some s ∧ s.calm = true) {mt : MT}
    (hmt : ∀ p : Nat × Nat, mt (e0.set j (.imm (pD p))) = some (decide (p.1 = x), e0.set j (.imm (pD p)))) :
    mLc [j] mi (gN j) mt (mBin dIx (lVar j) (lFix (mC (.int 1)))) env = some (.lst (dN (fstL L x)), e0) := by
  obtain ⟨s, hs, hc⟩ := hj
  have hlt : j < e0.length := (List.getElem?_eq_some_iff.mp hs).1
  have hself : e0.set j s = e0 := by
    obtain ⟨h, rfl⟩ := List.getElem?_eq_some_iff.mp hs
    exact List.set_getElem_self h
  obtain ⟨acc, e2, hlc, ⟨t2, rfl⟩, hl⟩ := lc_ok (vs := [j]) (mi := mi) (gf := gN j) (mt := mt) (me := mBin dIx (lVar j) (lFix (mC (.int 1)))) (env := env) (e0 := e0) (ds := dLk L)
    hi (by simp -implicitDefEqProofs [calmAt, hs, hc]) (by simp -implicitDefEqProofs; omega) (fun e => ∃ t, e = e0.set j t) (fun n acc => acc = dN (fstL (L.take n) x)) ⟨s, hself.symm⟩ rfl (by
      rintro n d e acc hd ⟨t, rfl⟩ rfl
      rw [List.getElem?_map] at hd
      obtain ⟨p, hp, rfl⟩ := Option.map_eq_some_iff.mp hd
      have htk : L.take (n + 1) = L.take n ++ [p] := by rw [List.take_succ, hp]; rfl
      refine ⟨e0.set j (.imm (pD p)), decide (p.1 = x), e0.set j (.imm (pD p)), by simp -implicitDefEqProofs [wipeE, hlt], hmt p, fun hq => ⟨.int (p.2 : Nat), e0.set j (.imm (pD p)), by simp -implicitDefEqProofs [hlt], ⟨_, rfl⟩, ?_⟩, fun hq => ⟨⟨_, rfl⟩, ?_⟩⟩
      · unfold fstL
        rw [htk, List.filter_append]
        have : ([p].filter fun l => decide (l.1 = x)) = [p] := by rw [List.filter_cons, if_pos hq]; rfl
        rw [this]; simp
      · unfold fstL
        rw [htk, List.filter_append]
        have : ([p].filter fun l => decide (l.1 = x)) = [] := by rw [List.filter_cons, if_neg (by rw [hq]; simp)]; rfl
        rw [this]; simp)
  rw [hlc, hl]
  rw [List.length_map, List.take_length]
  simp -implicitDefEqProofs [backE, wipeE, hs, hself]
theorem lf_len (L : List (Nat × Nat)) (c : Nat) : ∀ k, (lfN L c k).length ≤ k + 1 ∧ lfN L c k ≠ []
  | 0 => ⟨Nat.le_refl _, by simp [lfN]⟩
  | k + 1 => by
    obtain ⟨h1, h2⟩ := lf_len L c k
    show (stepF L k (lfN L c k)).length ≤ _ ∧ stepF L k (lfN L c k) ≠ []
    unfold stepF
    split
    · exact ⟨by omega, h2⟩
    · split
      · exact ⟨by omega, h2⟩
      · split
        · exact ⟨by simp; omega, by simp⟩
        · exact ⟨by omega, h2⟩
theorem lawFollowed_ok (L : List (Nat × Nat)) (c : Nat) (hl : L.length ≤ 900) : res n_law_followed m_law_followed [.imm (.lst (dLk L)), .imm (.int (c : Nat))] [] = some (.lst (dN (lfN L c L.length)), []) := by
  refine res_eq ?_
  show W m_law_followed [.imm (.lst (dLk L)), .imm (.int (c : Nat)), .un, .un, .un, .un] _
  unfold m_law_followed
  have hlen : (dLk L).length = L.length := by simp
  have ah := fun (env : En) (x : Nat) (mt : MT) => ahead_lc (env := env) (e0 := env) (j := 5) L x (mi := iAny (mVar 0)) (mt := mt) (by omega)
  obtain ⟨Y, hY⟩ : ∃ Y, Y = dLk L := ⟨_, rfl⟩
  rw [← hY] at hlen ah ⊢
  simp -implicitDefEqProofs
  obtain ⟨Pv, hP⟩ := inv fun k e => ∃ (s t : Sl), e = [.imm (.lst Y), .imm (.int (c : Nat)), .own (.lst (dN (lfN L c k))), s, t, .un]
  refine W_for (ds := rngD 0 L.length) (e0 := [.imm (.lst Y), .imm (.int (c : Nat)), .own (.lst [.int (c : Nat)]), .un, .un, .un]) (iR1_ok (n := L.length) (by simp -implicitDefEqProofs [hlen]) (by omega)) Pv (by rw [hP]; exact ⟨_, _, rfl⟩) ?_ ?_
  · intro k d e hd h0
    rw [hP] at h0
    obtain ⟨s, t, rfl⟩ := h0
    simp -implicitDefEqProofs at hd
    obtain ⟨hk, rfl⟩ := hd
    obtain ⟨q1, q2⟩ := lf_len L c k
    have hstep : lfN L c (k + 1) = stepF L k (lfN L c k) := rfl
    obtain ⟨m, hm⟩ : ∃ m, m = lfN L c k := ⟨_, rfl⟩
    rw [← hm] at q1 q2 hstep ⊢
    obtain ⟨l, hlast⟩ : ∃ l, m.getLast? = some l := ⟨_, List.getLast?_eq_getLast q2⟩
    have hlast2 : (dN m).getLast? = some (.int (l : Nat)) := by rw [List.getLast?_map, hlast]; rfl
    have hml : (dN m).length = m.length := by simp
    have hap : ∀ y : Nat, dN (m ++ [y]) = dN m ++ [.int (y : Nat)] := fun y => by simp
    have hpos := List.length_pos_iff.mpr q2
    have z1 : m.length < sizeLine := szL (by omega)
    have a1 := ah [.imm (.lst Y), .imm (.int (c : Nat)), .own (.lst (dN m)), .imm (.int (k : Nat)), t, .un] l (mTest (mBin (dEqv false) (lFix (mBin dIx (lVar 5) (lFix (mC (.int 0))))) (lFix (mBin dIx (lVar 2) (lFix (mNeg (mC (.int 1)))))))) (by simp -implicitDefEqProofs) ⟨.un, rfl, rfl⟩ (fun p => by
      obtain ⟨Z, hZ⟩ : ∃ Z, Z = dN m := ⟨_, rfl⟩
      rw [← hZ] at hlast2 hml
      rw [← hZ]
      have zl : atI Z (-1) = some (.int (l : Nat)) := by
        obtain ⟨w, w1, w2⟩ := atI_last Z (by intro z; rw [z] at hlast2; cases hlast2)
        rw [hlast2] at w1; cases w1; exact w2
      have e1 : dEqv false (.int ((p.1 : Nat) : Int)) (.int ((l : Nat) : Int)) = some (.bl (decide (p.1 = l))) := by rw [eqv_int]; simp; omega
      simp -implicitDefEqProofs [zl, e1])
    obtain ⟨Z, hZ⟩ : ∃ Z, Z = dN m := ⟨_, rfl⟩
    rw [← hZ] at a1 hml hap ⊢
    refine ⟨[.imm (.lst Y), .imm (.int (c : Nat)), .own (.lst Z), .imm (.int (k : Nat)), t, .un], by simp -implicitDefEqProofs, ?_⟩
    have hs0 : stepF L k m = match fstL L l with
      | [] => m
      | y :: _ => if m.length = k + 1 then m ++ [y] else m := by unfold stepF; rw [hlast]; first | done | rfl
    have eL : dEqv false (.int ((m.length : Nat) : Int)) (.int (((k : Nat) : Int) + 1)) = some (.bl (decide (m.length = k + 1))) := by rw [eqv_int]; simp; omega
    simp -implicitDefEqProofs only [W_seq, W_asgF, a1, Gt_some, sqK_nx, List.set_cons_zero, List.set_cons_succ, List.length_cons, List.length_nil, Nat.reduceLT, Nat.reduceAdd, true_and]
    cases hf : fstL L l with
    | nil =>
      rw [hf] at hs0
      simp -implicitDefEqProofs
      rw [hP]
      dsimp only
      rw [hstep, hs0]
      exact ⟨_, _, by rw [← hZ]⟩
    | cons y r =>
      rw [hf] at hs0
      dsimp only at hs0
      have fl : 0 < (dN (y :: r)).length := by simp
      have f0 : (dN (y :: r))[0]? = some (.int (y : Nat)) := rfl
      obtain ⟨Fs, hF⟩ : ∃ Fs, Fs = dN (y :: r) := ⟨_, rfl⟩
      rw [← hF] at fl f0 ⊢
      by_cases hk1 : m.length = k + 1
      · rw [decT hk1] at eL
        rw [if_pos hk1] at hs0
        simp -implicitDefEqProofs [hml, eL, fl, f0, z1]
        rw [hP]
        dsimp only
        rw [hstep, hs0]
        have f1 : Fs[0] = .int (y : Nat) := by
          rw [List.getElem?_eq_getElem fl] at f0; injection f0
        exact ⟨.imm (.int (k : Nat)), .own (.lst Fs), by rw [hap]; first | done | rw [f1]⟩
      · rw [decF hk1] at eL
        rw [if_neg hk1] at hs0
        simp -implicitDefEqProofs [hml, eL, fl, f0]
        rw [hP]
        dsimp only
        rw [hstep, hs0]
        exact ⟨.imm (.int (k : Nat)), .own (.lst Fs), by rw [← hZ]⟩
  · intro e h0
    rw [hP] at h0
    obtain ⟨s, t, rfl⟩ := h0
    simp -implicitDefEqProofs
end Law
namespace Law
open PySem L2 Q
theorem spot_aug {near : List (List Nat)} {closed src : List Nat} {ws : List (List Nat)} (hs : ∀ c ∈ src, c < near.length) {i g : Nat} (hi : (stAll near closed ws src).1[i]? = some (g, true)) :
    ∃ a, Aug (nbN near) closed (lookT (ahT ws)) (pth (stAll near closed ws src) (i + 1) i) a g ∧ a ∈ src := by
  have C := st_sch near closed ws hs
  have hlt := (List.getElem?_eq_some_iff.mp hi).1
  have P := pth_ok C (bfs_st0 _ (st0S src closed) _) (i + 1) i (Nat.lt_succ_self i) hlt
  obtain ⟨s, hs0, hh⟩ := P.hd
  unfold opens at hs0
  obtain ⟨a, ha, rfl⟩ := List.mem_map.mp hs0
  obtain ⟨ha1, ha2⟩ := List.mem_filter.mp ha
  refine ⟨a, ⟨P.nd, fun u v h => (nx_iff _ _ _ _ _).mp (P.st_ u v h), hh, ?_⟩, ascN_mem ha1⟩
  rw [P.la, hi]
structure AlongR (near ws : List (List Nat)) (P : List Spt) (a : Nat) (D : List (Nat × Nat)) (ms : List Nat → List (List Nat)) : Prop where
  lch : res n_law_changed m_law_changed [.imm (.lst (dLk (linksOf ws))), .imm (.lst (dSp P))] [] = some (.lst (dLk D), [])
  chd : res n_changed_links m_changed_links [.imm (.lst (dLk (linksOf ws))), .imm (.lst (dSp P))] [] = some (.lst (dLk D), [])
  new : res n_new_ways m_new_ways [.imm (.lst (dNN ws)), .imm (.lst (dSp P))] [] = some (.lst (dNN (ms (headsOf ws ++ [a]))), [])
  fol : res n_follow m_follow [.imm (.lst (dLk D)), .imm (.int (a : Nat))] [] = some (.lst (dN ((ms [a])[0]?.getD [])), [])
  lfo : ∀ c ∈ headsOf ws ++ [a], res n_law_followed m_law_followed [.imm (.lst (dLk D)), .imm (.int (c : Nat))] [] = some (.lst (dN ((ms [c])[0]?.getD [])), [])
  map : ∀ cs, ms cs = cs.map fun c => (ms [c])[0]?.getD []
  len : D.length ≤ 900
  hd : P[0]? = some (a, false)
theorem along_ok {near : List (List Nat)} {doors closed src : List Nat} {ws : List (List Nat)} (F : IsFl near doors) (W : WOk (nbN near) near.length closed doors ws) (hwl : ws.length ≤ 6) (hs : ∀ c ∈ src, c < near.length) {i g : Nat} (hi : (stAll near closed ws src).1[i]? = some (g, true)) :
    ∃ a D ms, a < near.length ∧ AlongR near ws (pth (stAll near closed ws src) (i + 1) i) a D ms := by
  have hle := F.le
  obtain ⟨a, A, ha⟩ := spot_aug hs hi
  have hlt := (List.getElem?_eq_some_iff.mp hi).1
  have hpl := pth_len hs F W.tab hlt
  obtain ⟨P, hP⟩ : ∃ P, P = pth (stAll near closed ws src) (i + 1) i := ⟨_, rfl⟩
  rw [← hP] at A hpl ⊢
  have hw : ∀ w ∈ ws, w ≠ [] ∧ w.length ≤ 31 := fun w hw => ⟨W.ne w hw, (W.small hle w hw).1⟩
  have hll := links_len ws fun w h => (hw w h).2
  have hne : P ≠ [] := fun z => by have := A.hd; rw [z] at this; cases this
  have e0 := chgs_eq (linksOf ws) A.nd A.out
  have l1 := lawChanged_ok (linksOf ws) P hne (by omega)
  rw [← e0] at l1
  have l2 := changed_ok (linksOf ws) P hne (by omega)
  have hm : ∀ x y, (x, y) ∈ chgs (linksOf ws) P ↔ NewL (linksOf ws) P x y := fun x y => chgs_mem A.nd A.out
  have hm2 : ∀ x y, (x, y) ∈ chgs (linksOf ws) P → y ∈ nbN near x := fun x y h => by
    rcases (hm x y).mp h with ⟨hne, b, hc⟩ | ⟨h, _⟩
    · have hst := A.st _ _ hc
      unfold Nx at hst
      dsimp only at hst
      rcases hst with ⟨h1, h2, h3⟩ | ⟨h1, _⟩
      · exact h2
      · cases h1; exact absurd rfl hne
    · exact (W.link h).1
  have hal : ∀ x y, aftL (chgs (linksOf ws) P) x = some y → y < near.length := fun x y h => F.nb_lt x y (hm2 x y (aft_mem h))
  have hhl : ∀ c ∈ headsOf ws, c < near.length := fun c hc => by
    obtain ⟨w, hw, e⟩ := W.heads hc
    exact (W.op w hw c (List.mem_of_getElem? e)).2
  have haN := hs a ha
  have nw := newWays_ok ws P a false near.length hw (by omega) A.hd (by omega) hal hhl haN (by omega)
  have fo := follow_ok (chgs (linksOf ws) P) a near.length haN hal (by omega)
  have hcl := chgs_len P (linksOf ws)
  have inj : ∀ x y z, aftL (chgs (linksOf ws) P) x = some z → aftL (chgs (linksOf ws) P) y = some z → x = y := fun x y z h1 h2 => A.inj W.kept W.self ((hm _ _).mp (aft_mem h1)) ((hm _ _).mp (aft_mem h2))
  have fn : ∀ x y, (x, y) ∈ chgs (linksOf ws) P → aftL (chgs (linksOf ws) P) x = some y := fun x y h => by
    cases e : aftL (chgs (linksOf ws) P) x with
    | none => exact absurd e (aft_has h)
    | some z => rw [A.fn W.kept W.self ((hm _ _).mp (aft_mem e)) ((hm _ _).mp h)]
  obtain ⟨D, hD⟩ : ∃ D, D = chgs (linksOf ws) P := ⟨_, rfl⟩
  have lf : ∀ c ∈ headsOf ws ++ [a], res n_law_followed m_law_followed [.imm (.lst (dLk D)), .imm (.int (c : Nat))] [] = some (.lst (dN (metS (aftL D) c near.length)), []) := fun c hc => by
    have hcN : c < near.length := by
      rcases List.mem_append.mp hc with h | h
      · exact hhl c h
      · obtain rfl := List.mem_singleton.mp h; exact haN
    have hno : ∀ x, aftL (chgs (linksOf ws) P) x ≠ some c := fun x h => by
      refine A.first_none W.kept W.self (x := x) ?_ ((hm _ _).mp (aft_mem h))
      rcases List.mem_append.mp hc with h | h
      · exact .inl ((W.head c).mpr (W.heads h))
      · exact .inr (List.mem_singleton.mp h)
    rw [← hD] at inj fn hal hno
    have h1 := lawFollowed_ok D c (by rw [hD]; omega)
    rw [(lf_met inj hno (fun x y h => aft_mem h) fn D.length).1, met_links inj hno (fun x y h => aft_mem h) hal hcN] at h1
    exact h1
  rw [← hD] at l1 l2 nw fo
  refine ⟨a, D, fun cs => cs.map fun c => metS (aftL D) c near.length, haN, ⟨l1, l2, nw, fo, fun c hc => lf c hc, fun cs => rfl, by rw [hD]; omega, ?_⟩⟩
  have := A.hd
  rw [List.head?_eq_getElem?] at this
  exact this
end Law
namespace Law
open PySem L2 Q
/-- [f(x) for x in ..] -/
theorem map_lc {env e0 : En} {j : Nat} {mi : MI} {me : ME} {ds : List D} (f : D → D) (hi : mi env = some (ds, e0)) (hn : ds.length ≤ 1000) (hj : ∃ s, e0[j]? = some s ∧ s.calm = true) (hme : ∀ d ∈ ds, me (e0.set j (.imm d)) = some (f d, e0.set j (.imm d))) :
    mLc [j] mi (gN j) mYes me env = some (.lst (ds.map f), e0) := by
  obtain ⟨s, hs, hc⟩ := hj
  have hlt : j < e0.length := (List.getElem?_eq_some_iff.mp hs).1
  have hself : e0.set j s = e0 := by
    obtain ⟨h, rfl⟩ := List.getElem?_eq_some_iff.mp hs
    exact List.set_getElem_self h
  obtain ⟨acc, e2, hlc, ⟨t2, rfl⟩, hl⟩ := lc_ok (vs := [j]) (mi := mi) (gf := gN j) (mt := mYes) (me := me) (env := env) (e0 := e0) (ds := ds)
    hi (by simp -implicitDefEqProofs [calmAt, hs, hc]) (by omega) (fun e => ∃ t, e = e0.set j t) (fun n acc => acc = (ds.take n).map f) ⟨s, hself.symm⟩ rfl (by
      rintro n d e acc hd ⟨t, rfl⟩ rfl
      have htk : ds.take (n + 1) = ds.take n ++ [d] := by rw [List.take_succ, hd]; rfl
      refine ⟨e0.set j (.imm d), true, e0.set j (.imm d), by simp -implicitDefEqProofs [wipeE, hlt], rfl, fun hq => ⟨f d, e0.set j (.imm d), hme d (List.mem_of_getElem? hd), ⟨_, rfl⟩, ?_⟩, fun hq => by cases hq⟩
      rw [htk]; simp)
  rw [hlc, hl, List.take_length]
  simp -implicitDefEqProofs [backE, wipeE, hs, hself]
end Law
namespace Law
open PySem L2 Q
/-- [x for x in .. if ..] over numbers -/
theorem filt_lc {env e0 : En} {j : Nat} {mi : MI} {mt : MT} {xs : List Nat} (p : Nat → Bool) (hi : mi env = some (dN xs, e0)) (hn : xs.length ≤ 1000) (hj : ∃ s, e0[j]? = some s ∧ s.calm = true) (hmt : ∀ x ∈ xs, mt (e0.set j (.imm (.int ((x : Nat) : Int)))) = some (p x, e0.set j (.imm (.int ((x : Nat) : Int))))) :
    mLc [j] mi (gN j) mt (mVar j) env = some (.lst (dN (xs.filter p)), e0) := by
  obtain ⟨s, hs, hc⟩ := hj
  have hlt : j < e0.length := (List.getElem?_eq_some_iff.mp hs).1
  have hself : e0.set j s = e0 := by
    obtain ⟨h, rfl⟩ := List.getElem?_eq_some_iff.mp hs
    exact List.set_getElem_self h
  obtain ⟨acc, e2, hlc, ⟨t2, rfl⟩, hl⟩ := lc_ok (vs := [j]) (mi := mi) (gf := gN j) (mt := mt) (me := mVar j) (env := env) (e0 := e0) (ds := dN xs)
    hi (by simp -implicitDefEqProofs [calmAt, hs, hc]) (by rw [List.length_map]; omega) (fun e => ∃ t, e = e0.set j t) (fun n acc => acc = dN ((xs.take n).filter p)) ⟨s, hself.symm⟩ rfl (by
      rintro n d e acc hd ⟨t, rfl⟩ rfl
      rw [List.getElem?_map] at hd
      obtain ⟨x, hx, rfl⟩ := Option.map_eq_some_iff.mp hd
      have htk : xs.take (n + 1) = xs.take n ++ [x] := by rw [List.take_succ, hx]; rfl
      have h1 := hmt x (List.mem_of_getElem? hx)
      refine ⟨e0.set j (.imm (.int (x : Nat))), p x, e0.set j (.imm (.int (x : Nat))), by simp -implicitDefEqProofs [wipeE, hlt], h1, fun hq => ⟨.int (x : Nat), e0.set j (.imm (.int (x : Nat))), by simp -implicitDefEqProofs [hlt], ⟨_, rfl⟩, ?_⟩, fun hq => ⟨⟨_, rfl⟩, ?_⟩⟩
      · rw [htk, List.filter_append, List.filter_cons, if_pos hq]; simp
      · rw [htk, List.filter_append, List.filter_cons, if_neg (by rw [hq]; simp)]; simp)
  rw [hlc, hl, List.length_map, List.take_length]
  simp -implicitDefEqProofs [backE, wipeE, hs, hself]
end Law
namespace Law
open PySem L2 Q
theorem law_true (ns : List Int) (h : ns.length ≤ 63) : ∃ env, m_law (Sl.imm (.scr (ns.map D.int)) :: List.replicate (n_law.length - 1) Sl.un) = some (.ret .imm (.bl true) env) := by
  suffices hW : Q.W m_law [.imm (.scr (dI ns)), .un, .un, .un, .un, .un, .un, .un, .un, .un, .un, .un, .un, .un, .un, .un, .un] (fun fl => ∃ env, fl = .ret .imm (.bl true) env) by
    obtain ⟨fl, h1, env, rfl⟩ := hW
    exact ⟨env, h1⟩
  obtain ⟨md, d, ⟨digs, rfl⟩, c1⟩ := rt_res (N := n_law_digits) (mf := m_law_digits) (ss := [.imm (.scr (dI ns)), .imm (.int 0), .imm (.int 63)]) (digits_ok ns)
  have hb0 : IsBox (.lst [.lst (dI digs), .int 0]) := ⟨digs, 0, rfl⟩
  obtain ⟨md, d, b1, ⟨hb1, near, doors, sts, rfl, F, s1, s2⟩, c2⟩ := rtio_res (N := n_law_made) (mf := m_law_made) (ss := [.io 0 (.lst [.lst (dI digs), .int 0])]) (j := 0) (made_ok hb0)
  have Fpos := F.pos
  have Fle := F.le
  obtain ⟨md, d, rfl, c3⟩ := rt_res (N := n_floor_of) (mf := m_floor_of) (ss := [.imm (.lst (dNN near)), .imm (.lst (dN doors)), .imm (.lst (dNN sts))]) (floor_ok near sts doors Fle s1)
  obtain ⟨md, d, b2, ⟨hb2, closed, rfl, qc1, qc2, qc3⟩, c4⟩ := rtio_res (N := n_law_some) (mf := m_law_some) (ss := [.io 0 b1, .imm (.int near.length), .imm (.int 4)]) (j := 0) (some_ok (most := 4) hb1 Fpos (by omega))
  obtain ⟨md, d, b3, ⟨hb3, src, rfl, qs1, qs2, qs3⟩, c5⟩ := rtio_res (N := n_law_some) (mf := m_law_some) (ss := [.io 0 b2, .imm (.int near.length), .imm (.int 5)]) (j := 0) (some_ok (most := 5) hb2 Fpos (by omega))
  obtain ⟨md, d, b4, ⟨hb4, picked, rfl, qp1, qp2, qp3⟩, c6⟩ := rtio_res (N := n_law_some) (mf := m_law_some) (ss := [.io 0 b3, .imm (.int near.length), .imm (.int 3)]) (j := 0) (some_ok (most := 3) hb3 Fpos (by omega))
  obtain ⟨ws, g1, g2, W⟩ := greedy_way near doors closed src F qs3 (by omega)
  have hwl : ws.length ≤ 6 := by omega
  have hw : ∀ w ∈ ws, w ≠ [] ∧ w.length ≤ 31 := fun w hw => ⟨W.ne w hw, (W.small Fle w hw).1⟩
  have k1 := links_ok ws (fun w h => (hw w h).2) (by omega)
  have k2 := lawLinks_ok ws hw (by omega)
  obtain ⟨st, hst⟩ : ∃ st, st = picked.filter fun x => !decide (x ∈ headsOf ws) := ⟨_, rfl⟩
  have hs : ∀ c ∈ st, c < near.length := fun c hc => by rw [hst] at hc; exact qp3 c (List.mem_filter.mp hc).1
  have hsl : st.length ≤ 3 := by rw [hst]; have := List.length_filter_le (fun x => !decide (x ∈ headsOf ws)) picked; omega
  have ex := explore_ok_b near sts ws doors closed st F (by omega) (fun w hw => W.small Fle w hw) W.tab hs (by omega)
  have along := fun (i g : Nat) (hi : (stAll near closed ws st).1[i]? = some (g, true)) => along_ok F W hwl hs hi
  have C := st_sch near closed ws hs
  have hsm : (stAll near closed ws st).1.length ≤ 2 * near.length := (bfs_ok (fun s h => nextS_lt near doors closed (ahT ws) F W.tab s h) (st0_ok (closed := closed) hs) (2 * near.length)).small
  change res n_explore m_explore _ _ = some (.tup [.lst (dSp (stAll near closed ws st).1), .lst (dPa (stAll near closed ws st).2)], []) at ex
  obtain ⟨sa, hsa⟩ : ∃ sa, sa = stAll near closed ws st := ⟨_, rfl⟩
  rw [← hsa] at ex C hsm
  simp only [← hsa] at along
  have pt := fun i (hi : i < sa.1.length) => pathTo_ok C (by omega) hi
  obtain ⟨fo, hfo⟩ : ∃ fo, fo = flD near doors sts := ⟨_, rfl⟩
  rw [← hfo] at c3 ex
  have Nl : (dNN near).length = near.length := by simp
  obtain ⟨Nr, hNr⟩ : ∃ N, N = dNN near := ⟨_, rfl⟩
  rw [← hNr] at c2 c3 Nl g1
  rw [← Nl] at c4 c5 c6
  have hl1 := fun (env : En) (e : iAny (mVar 6) env = some (dNN ws, env)) (hj : ∃ s, env[15]? = some s ∧ s.calm = true) => heads_lc (env := env) (e0 := env) (ws := ws) (j := 15) (mi := iAny (mVar 6)) (by omega) W.ne e hj
  have cp := fun (env : En) => copies_lc (env := env) (ws := ws) (k := 6) (j := 15) (i := 16) (by omega) (fun w h => by have := (hw w h).2; omega) (by decide)
  have hhl : (headsOf ws).length = ws.length := by simp [headsOf]
  have Hl : (dN (headsOf ws)).length = ws.length := by rw [List.length_map, hhl]
  have inH := fun c => in_N true c (headsOf ws)
  have cat : ∀ c : Nat, dN (headsOf ws ++ [c]) = dN (headsOf ws) ++ [.int (c : Nat)] := fun c => by simp
  have evw := eqv_NN false ws
  have evl := eqv_L true (linksOf ws)
  obtain ⟨H, hH⟩ : ∃ H, H = dN (headsOf ws) := ⟨_, rfl⟩
  obtain ⟨Ws, hWs⟩ : ∃ Ws, Ws = dNN ws := ⟨_, rfl⟩
  obtain ⟨Lk, hLk⟩ : ∃ Lk, Lk = dLk (linksOf ws) := ⟨_, rfl⟩
  obtain ⟨St, hSt⟩ : ∃ St, St = dN st := ⟨_, rfl⟩
  have hSat : ∀ (k : Nat) (s : Spt), sa.1[k]? = some s → (dSp sa.1)[k]? = some (spD s) := fun k s h => by rw [List.getElem?_map, h]; rfl
  have Sl : (dSp sa.1).length = sa.1.length := by simp
  obtain ⟨S, hS⟩ : ∃ S, S = dSp sa.1 := ⟨_, rfl⟩
  obtain ⟨T, hT⟩ : ∃ T, T = dPa sa.2 := ⟨_, rfl⟩
  rw [← hWs] at g1 k1 k2 ex cp evw
  rw [← hLk] at k1 k2 evl
  rw [← hSt] at ex
  rw [← hS] at ex Sl
  rw [← hT] at ex
  simp only [← hS, ← hT] at pt hSat
  simp only [← hH] at hl1 cat inH
  rw [← hH] at Hl
  simp only [← hWs] at hl1
  have lc2 := cp [.imm (.scr (dI ns)), .own b3, .imm (.lst [.lst Nr, .lst (dN doors), .lst (dNN sts)]), .imm (.lst Nr), .imm fo, .imm (.lst (dN closed)), .imm (.lst Ws), .un, .un, .un, .un, .un, .un, .un, .un, .un, .un] rfl ⟨.un, rfl, rfl⟩ ⟨.un, rfl, rfl⟩
  have lc9 : (mLc [16] (iAny (mCallV n_law_some 3 m_law_some (cIo 1 (cImm (mBi dLen (bCons (lVar 3) bNil)) (cImm (mC (.int 3)) cNil))))) (gN 16) (mTest (mBin (dIn true) (lVar 16) (lFix (mLc [15] (iAny (mVar 6)) (gN 15) mYes (mBin dIx (lVar 15) (lFix (mC (.int 0)))))))) (mVar 16)) [.imm (.scr (dI ns)), .own b3, .imm (.lst [.lst Nr, .lst (dN doors), .lst (dNN sts)]), .imm (.lst Nr), .imm fo, .imm (.lst (dN closed)), .imm (.lst Ws), .own (.lst Ws), .imm (.lst Lk), .un, .un, .un, .un, .un, .un, .un, .un] = some (.lst St, [.imm (.scr (dI ns)), .own b4, .imm (.lst [.lst Nr, .lst (dN doors), .lst (dNN sts)]), .imm (.lst Nr), .imm fo, .imm (.lst (dN closed)), .imm (.lst Ws), .own (.lst Ws), .imm (.lst Lk), .un, .un, .un, .un, .un, .un, .un, .un]) := by
    have := filt_lc (env := [.imm (.scr (dI ns)), .own b3, .imm (.lst [.lst Nr, .lst (dN doors), .lst (dNN sts)]), .imm (.lst Nr), .imm fo, .imm (.lst (dN closed)), .imm (.lst Ws), .own (.lst Ws), .imm (.lst Lk), .un, .un, .un, .un, .un, .un, .un, .un]) (e0 := [.imm (.scr (dI ns)), .own b4, .imm (.lst [.lst Nr, .lst (dN doors), .lst (dNN sts)]), .imm (.lst Nr), .imm fo, .imm (.lst (dN closed)), .imm (.lst Ws), .own (.lst Ws), .imm (.lst Lk), .un, .un, .un, .un, .un, .un, .un, .un]) (j := 16) (xs := picked) (mi := iAny (mCallV n_law_some 3 m_law_some (cIo 1 (cImm (mBi dLen (bCons (lVar 3) bNil)) (cImm (mC (.int 3)) cNil))))) (mt := mTest (mBin (dIn true) (lVar 16) (lFix (mLc [15] (iAny (mVar 6)) (gN 15) mYes (mBin dIx (lVar 15) (lFix (mC (.int 0)))))))) (fun x => !decide (x ∈ headsOf ws)) (by simp -implicitDefEqProofs [V_eq, c6]) (by omega) ⟨.un, rfl, rfl⟩ (fun x hx => by
      have h1 := hl1 [.imm (.scr (dI ns)), .own b4, .imm (.lst [.lst Nr, .lst (dN doors), .lst (dNN sts)]), .imm (.lst Nr), .imm fo, .imm (.lst (dN closed)), .imm (.lst Ws), .own (.lst Ws), .imm (.lst Lk), .un, .un, .un, .un, .un, .un, .un, .imm (.int ((x : Nat) : Int))] (by simp -implicitDefEqProofs) ⟨.un, rfl, rfl⟩
      have h2 := inH x
      simp -implicitDefEqProofs [h1, h2])
    rw [← hst, ← hSt] at this
    exact this
  unfold m_law
  obtain ⟨rest, hrest⟩ : ∃ r : MS, r = (mSeq (mForS (iR1 (aCons (mBi dLen (bCons (lFix (mBin dIx (lVar 10) (lFix (mC (.int 0))))) bNil)) aNil)) (gN 11)
    (mIfS (mTru (lFix (mBin dIx (lFix (mBin dIx (lFix (mBin dIx (lVar 10) (lFix (mC (.int 0))))) (lVar 11))) (lFix (mC (.int 1))))))
    (mSeq (mAsg 12 (mCallV n_path_to 3 m_path_to (cImm (mBin dIx (lVar 10) (lFix (mC (.int 0)))) (cImm (mBin dIx (lVar 10) (lFix (mC (.int 1)))) (cImm (mVar 11) cNil)))))
    (mSeq (mAsg 13 (mCallV n_law_changed 2 m_law_changed (cImm (mVar 8) (cBor 12 cNil))))
    (mSeq (mIfS (mOr (mTest (mBin (dEqv true) (lFix (mCallV n_changed_links 2 m_changed_links (cBor 8 (cImm (mVar 12) cNil)))) (lVar 13))) (mTest (mBin (dEqv true) (lVar 8) (lFix (mCallV n_law_links 1 m_law_links (cImm (mVar 7) cNil))))))
    (mRet (mC (.bl false)))
    mNext)
    (mSeq (mAsg 14 (mBin dCat (lFix (mLc [15] (iAny (mVar 6)) (gN 15) mYes (mBin dIx (lVar 15) (lFix (mC (.int 0)))))) (lFix (mLst (aCons (mBin dIx (lFix (mBin dIx (lVar 12) (lFix (mC (.int 0))))) (lFix (mC (.int 0)))) aNil)))))
    (mSeq (mIfS (mTest (mBin (dEqv true) (lFix (mCallV n_new_ways 2 m_new_ways (cImm (mVar 6) (cImm (mVar 12) cNil)))) (lFix (mLc [16] (iAny (mVar 14)) (gN 16) mYes (mCallV n_law_followed 2 m_law_followed (cImm (mVar 13) (cImm (mVar 16) cNil)))))))
    (mRet (mC (.bl false)))
    mNext)
    (mIfS (mTest (mBin (dEqv true) (lFix (mCallV n_follow 2 m_follow (cBor 13 (cImm (mBin dIx (lFix (mBin dIx (lVar 12) (lFix (mC (.int 0))))) (lFix (mC (.int 0)))) cNil)))) (lFix (mCallV n_law_followed 2 m_law_followed (cImm (mVar 13) (cImm (mBin dIx (lFix (mBin dIx (lVar 12) (lFix (mC (.int 0))))) (lFix (mC (.int 0)))) cNil))))))
    (mRet (mC (.bl false)))
    mNext))))))
    mNext))
    (mRet (mAndV (mBin (dEqv false) (lVar 6) (lVar 7)) (mAndV (mBin (dEqv false) (lFix (mCallV n_links_of 1 m_links_of (cImm (mLst aNil) cNil))) (lFix (mLst aNil))) (mBin (dEqv false) (lFix (mCallV n_follow 2 m_follow (cImm (mLst aNil) (cImm (mC (.int 3)) cNil)))) (lFix (mLst (aCons (mC (.int 3)) aNil)))))))) := ⟨_, rfl⟩
  have tail : Q.W rest [.imm (.scr (dI ns)), .own b4, .imm (.lst [.lst Nr, .lst (dN doors), .lst (dNN sts)]), .imm (.lst Nr), .imm fo, .imm (.lst (dN closed)), .imm (.lst Ws), .own (.lst Ws), .imm (.lst Lk), .own (.lst St), .imm (.tup [.lst S, .lst T]), .un, .un, .un, .un, .un, .un] (fun fl => ∃ env, fl = .ret .imm (.bl true) env) := by
    rw [hrest]
    obtain ⟨P, hP⟩ := inv fun k e => ∃ s7 s t u v, (s7 = .own (.lst Ws) ∨ s7 = .imm (.lst Ws)) ∧ e = [.imm (.scr (dI ns)), .own b4, .imm (.lst [.lst Nr, .lst (dN doors), .lst (dNN sts)]), .imm (.lst Nr), .imm fo, .imm (.lst (dN closed)), .imm (.lst Ws), s7, .imm (.lst Lk), .own (.lst St), .imm (.tup [.lst S, .lst T]), s, t, u, v, .un, .un]
    refine W_seq.mpr (W_for (ds := rngD 0 sa.1.length) (e0 := [.imm (.scr (dI ns)), .own b4, .imm (.lst [.lst Nr, .lst (dN doors), .lst (dNN sts)]), .imm (.lst Nr), .imm fo, .imm (.lst (dN closed)), .imm (.lst Ws), .own (.lst Ws), .imm (.lst Lk), .own (.lst St), .imm (.tup [.lst S, .lst T]), .un, .un, .un, .un, .un, .un]) (iR1_ok (n := sa.1.length) (by simp -implicitDefEqProofs [Sl]) (by omega)) P (by rw [hP]; exact ⟨_, .un, .un, .un, .un, .inl rfl, rfl⟩) ?_ ?_)
    · intro k d e hd h0
      rw [hP] at h0
      obtain ⟨s7, s, t, u, v, h7, rfl⟩ := h0
      simp -implicitDefEqProofs at hd
      obtain ⟨hk, rfl⟩ := hd
      obtain ⟨⟨g, o⟩, hgo⟩ : ∃ x, sa.1[k]? = some x := ⟨_, List.getElem?_eq_getElem hk⟩
      have hSk := hSat k (g, o) hgo
      refine ⟨[.imm (.scr (dI ns)), .own b4, .imm (.lst [.lst Nr, .lst (dN doors), .lst (dNN sts)]), .imm (.lst Nr), .imm fo, .imm (.lst (dN closed)), .imm (.lst Ws), s7, .imm (.lst Lk), .own (.lst St), .imm (.tup [.lst S, .lst T]), .imm (.int (k : Nat)), t, u, v, .un, .un], by simp -implicitDefEqProofs, ?_⟩
      cases o with
      | false =>
        simp -implicitDefEqProofs [hSk]
        rw [hP]; exact ⟨s7, _, t, u, v, h7, rfl⟩
      | true =>
        obtain ⟨a, Ch, ms, haN, A⟩ := along k g hgo
        have p1 := pt k hk
        obtain ⟨r1, r2, r3, r4, r5, r6, r7, r8⟩ := A
        obtain ⟨Pp, hPp⟩ : ∃ Pp, Pp = pth sa (k + 1) k := ⟨_, rfl⟩
        rw [← hPp] at p1 r1 r2 r3 r8
        have x0 : (dSp Pp)[0]? = some (spD (a, false)) := by rw [List.getElem?_map, r8]; rfl
        obtain ⟨X, hX⟩ : ∃ X, X = dSp Pp := ⟨_, rfl⟩
        rw [← hX] at p1 r1 r2 r3 x0
        rw [← hLk] at r1 r2
        rw [← hWs] at r3
        have evd := eqv_L true Ch
        have evn := eqv_NN true (ms (headsOf ws ++ [a]))
        have evf := eqv_N true ((ms [a])[0]?.getD [])
        have z2 : H.length + 1 ≤ sizeLine := szS (by omega)
        have ra := r5 a (by simp)
        have mp : (dN (headsOf ws ++ [a])).map (fun d => match d with | .int c => D.lst (dN ((ms [c.toNat])[0]?.getD [])) | d => d) = dNN (ms (headsOf ws ++ [a])) := by
          rw [r6 (headsOf ws ++ [a]), List.map_map]
          show _ = List.map (fun r => D.lst (dN r)) (List.map _ _)
          rw [List.map_map]
          refine List.map_congr_left fun c _ => ?_
          show D.lst (dN ((ms [((c : Nat) : Int).toNat])[0]?.getD [])) = _
          rw [Int.toNat_natCast]; rfl
        obtain ⟨Fw, hFw⟩ : ∃ Fw, Fw = dN ((ms [a])[0]?.getD []) := ⟨_, rfl⟩
        rw [← hFw] at r4 ra evf
        obtain ⟨Nw, hNw⟩ : ∃ Nw, Nw = dNN (ms (headsOf ws ++ [a])) := ⟨_, rfl⟩
        rw [← hNw] at r3 evn mp
        obtain ⟨Dd, hDd⟩ : ∃ Dd, Dd = dLk Ch := ⟨_, rfl⟩
        rw [← hDd] at r1 r2 r4 ra evd
        simp only [← hDd] at r5
        rw [cat] at mp
        rcases h7 with rfl | rfl
        · have hlc := hl1 [.imm (.scr (dI ns)), .own b4, .imm (.lst [.lst Nr, .lst (dN doors), .lst (dNN sts)]), .imm (.lst Nr), .imm fo, .imm (.lst (dN closed)), .imm (.lst Ws), .imm (.lst Ws), .imm (.lst Lk), .own (.lst St), .imm (.tup [.lst S, .lst T]), .imm (.int (k : Nat)), .imm (.lst X), .imm (.lst Dd), v, .un, .un] (by simp -implicitDefEqProofs) ⟨.un, rfl, rfl⟩
          have mlc := map_lc (env := [.imm (.scr (dI ns)), .own b4, .imm (.lst [.lst Nr, .lst (dN doors), .lst (dNN sts)]), .imm (.lst Nr), .imm fo, .imm (.lst (dN closed)), .imm (.lst Ws), .imm (.lst Ws), .imm (.lst Lk), .own (.lst St), .imm (.tup [.lst S, .lst T]), .imm (.int (k : Nat)), .imm (.lst X), .imm (.lst Dd), .imm (.lst (H ++ [.int (a : Nat)])), .un, .un]) (e0 := [.imm (.scr (dI ns)), .own b4, .imm (.lst [.lst Nr, .lst (dN doors), .lst (dNN sts)]), .imm (.lst Nr), .imm fo, .imm (.lst (dN closed)), .imm (.lst Ws), .imm (.lst Ws), .imm (.lst Lk), .own (.lst St), .imm (.tup [.lst S, .lst T]), .imm (.int (k : Nat)), .imm (.lst X), .imm (.lst Dd), .imm (.lst (H ++ [.int (a : Nat)])), .un, .un]) (j := 16) (mi := iAny (mVar 14)) (me := mCallV n_law_followed 2 m_law_followed (cImm (mVar 13) (cImm (mVar 16) cNil))) (ds := H ++ [.int (a : Nat)]) (fun d => match d with | .int c => D.lst (dN ((ms [c.toNat])[0]?.getD [])) | d => d) (by simp -implicitDefEqProofs) (by rw [List.length_append, Hl]; simp; omega) ⟨.un, rfl, rfl⟩ (fun d hd => by
            rw [← cat] at hd
            obtain ⟨c, hc, rfl⟩ := List.mem_map.mp hd
            have q := r5 c hc
            dsimp only
            rw [Int.toNat_natCast]
            simp -implicitDefEqProofs [V_eq, q])
          rw [mp] at mlc
          simp -implicitDefEqProofs [V_eq, hSk, p1, r1, r2, evd, evl, k2]
          simp -implicitDefEqProofs [V_eq, hlc, x0, z2]
          simp -implicitDefEqProofs [V_eq, r3, mlc, evn, x0, r4, ra, evf]
          rw [hP]; exact ⟨_, _, _, _, _, .inr rfl, rfl⟩
        · have hlc := hl1 [.imm (.scr (dI ns)), .own b4, .imm (.lst [.lst Nr, .lst (dN doors), .lst (dNN sts)]), .imm (.lst Nr), .imm fo, .imm (.lst (dN closed)), .imm (.lst Ws), .imm (.lst Ws), .imm (.lst Lk), .own (.lst St), .imm (.tup [.lst S, .lst T]), .imm (.int (k : Nat)), .imm (.lst X), .imm (.lst Dd), v, .un, .un] (by simp -implicitDefEqProofs) ⟨.un, rfl, rfl⟩
          have mlc := map_lc (env := [.imm (.scr (dI ns)), .own b4, .imm (.lst [.lst Nr, .lst (dN doors), .lst (dNN sts)]), .imm (.lst Nr), .imm fo, .imm (.lst (dN closed)), .imm (.lst Ws), .imm (.lst Ws), .imm (.lst Lk), .own (.lst St), .imm (.tup [.lst S, .lst T]), .imm (.int (k : Nat)), .imm (.lst X), .imm (.lst Dd), .imm (.lst (H ++ [.int (a : Nat)])), .un, .un]) (e0 := [.imm (.scr (dI ns)), .own b4, .imm (.lst [.lst Nr, .lst (dN doors), .lst (dNN sts)]), .imm (.lst Nr), .imm fo, .imm (.lst (dN closed)), .imm (.lst Ws), .imm (.lst Ws), .imm (.lst Lk), .own (.lst St), .imm (.tup [.lst S, .lst T]), .imm (.int (k : Nat)), .imm (.lst X), .imm (.lst Dd), .imm (.lst (H ++ [.int (a : Nat)])), .un, .un]) (j := 16) (mi := iAny (mVar 14)) (me := mCallV n_law_followed 2 m_law_followed (cImm (mVar 13) (cImm (mVar 16) cNil))) (ds := H ++ [.int (a : Nat)]) (fun d => match d with | .int c => D.lst (dN ((ms [c.toNat])[0]?.getD [])) | d => d) (by simp -implicitDefEqProofs) (by rw [List.length_append, Hl]; simp; omega) ⟨.un, rfl, rfl⟩ (fun d hd => by
            rw [← cat] at hd
            obtain ⟨c, hc, rfl⟩ := List.mem_map.mp hd
            have q := r5 c hc
            dsimp only
            rw [Int.toNat_natCast]
            simp -implicitDefEqProofs [V_eq, q])
          rw [mp] at mlc
          simp -implicitDefEqProofs [V_eq, hSk, p1, r1, r2, evd, evl, k2]
          simp -implicitDefEqProofs [V_eq, hlc, x0, z2]
          simp -implicitDefEqProofs [V_eq, r3, mlc, evn, x0, r4, ra, evf]
          rw [hP]; exact ⟨_, _, _, _, _, .inr rfl, rfl⟩
    · intro e h0
      rw [hP] at h0
      obtain ⟨s7, s, t, u, v, h7, rfl⟩ := h0
      have f1 := links_ok [] (by simp) (by simp)
      have f2 := follow_ok [] 3 4 (by omega) (by intro x y h; cases h) (by omega)
      have f3 := eqv_L false []
      have f4 := eqv_N false [3]
      change res n_follow m_follow [.imm (.lst []), .imm (.int 3)] [] = some (.lst [.int 3], []) at f2
      change res n_links_of m_links_of [.imm (.lst [])] [] = some (.lst [], []) at f1
      change dEqv false (.lst []) (.lst []) = _ at f3
      change dEqv false (.lst [.int 3]) (.lst [.int 3]) = _ at f4
      rcases h7 with rfl | rfl
      · simp -implicitDefEqProofs [V_eq, evw, f1, f2, f3, f4]
      · simp -implicitDefEqProofs [V_eq, evw, f1, f2, f3, f4]
  rw [← hrest]
  obtain ⟨rest2, hrest2⟩ : ∃ r : MS, r = (mSeq (mAsgF 9 (mLc [16] (iAny (mCallV n_law_some 3 m_law_some (cIo 1 (cImm (mBi dLen (bCons (lVar 3) bNil)) (cImm (mC (.int 3)) cNil))))) (gN 16) (mTest (mBin (dIn true) (lVar 16) (lFix (mLc [15] (iAny (mVar 6)) (gN 15) mYes (mBin dIx (lVar 15) (lFix (mC (.int 0)))))))) (mVar 16)))
    (mSeq (mAsg 10 (mCallV n_explore 4 m_explore (cBor 4 (cBor 5 (cImm (mVar 6) (cBor 9 cNil))))))
    rest)) := ⟨_, rfl⟩
  have tail2 : Q.W rest2 [.imm (.scr (dI ns)), .own b3, .imm (.lst [.lst Nr, .lst (dN doors), .lst (dNN sts)]), .imm (.lst Nr), .imm fo, .imm (.lst (dN closed)), .imm (.lst Ws), .own (.lst Ws), .imm (.lst Lk), .un, .un, .un, .un, .un, .un, .un, .un] (fun fl => ∃ env, fl = .ret .imm (.bl true) env) := by
    rw [hrest2]
    simp -implicitDefEqProofs only [W_seq, W_asgF, lc9, Gt_some, List.length_cons, List.length_nil, Nat.reduceAdd, Nat.reduceLT, true_and, List.set_cons_zero, List.set_cons_succ, sqK_nx]
    simp -implicitDefEqProofs [V_eq, ex]
    exact tail
  rw [← hrest2]
  obtain ⟨rest1, hrest1⟩ : ∃ r : MS, r = (mSeq (mAsgF 7 (mLc [15] (iAny (mVar 6)) (gN 15) mYes (mLc [16] (iAny (mVar 15)) (gN 16) mYes (mVar 16))))
    (mSeq (mAsg 8 (mCallV n_links_of 1 m_links_of (cImm (mVar 6) cNil)))
    (mSeq (mIfS (mOr (mNot (mTru (lFix (mBi dIsi (bCons (lVar 8) (bCons (lFix (mC (.typ "list"))) bNil)))))) (mTest (mBin (dEqv true) (lVar 8) (lFix (mCallV n_law_links 1 m_law_links (cImm (mVar 6) cNil))))))
    (mRet (mC (.bl false)))
    mNext)
    rest2))) := ⟨_, rfl⟩
  have tail1 : Q.W rest1 [.imm (.scr (dI ns)), .own b3, .imm (.lst [.lst Nr, .lst (dN doors), .lst (dNN sts)]), .imm (.lst Nr), .imm fo, .imm (.lst (dN closed)), .imm (.lst Ws), .un, .un, .un, .un, .un, .un, .un, .un, .un, .un] (fun fl => ∃ env, fl = .ret .imm (.bl true) env) := by
    rw [hrest1]
    simp -implicitDefEqProofs only [W_seq, W_asgF, lc2, Gt_some, List.length_cons, List.length_nil, Nat.reduceAdd, Nat.reduceLT, true_and, List.set_cons_zero, List.set_cons_succ, sqK_nx]
    simp -implicitDefEqProofs [V_eq, isi_lst, k1, k2, evl]
    exact tail2
  rw [← hrest1]
  simp -implicitDefEqProofs [V_eq, c1, c2, c3, c4, c5, g1]
  exact tail1
end Law
namespace Law
open PySem L2 Q
def spLaw (K : PySem.W.Frag) : Sp := fun vs H Q _ => ∃ (a : Addr) (ns : List Int), vs = [.ref a] ∧ SqL K H a (ns.map V.int) ∧ ns.length ≤ 63 ∧ ∀ H', Q (.bl true) H'
section
theorem all_mk {l : PySem.W.OpenLaw} {w : World} {K : PySem.W.Frag} {h : Heap} {mg : Str → Option Value} {fa CFloor f_law_draw f_law_used f_law_renamed f_law_has_door f_law_with_door f_law_tile f_law_rows f_law_places f_law_near f_law_doors f_law_stations f_law_made f_Floor__init f_floor_of f_law_some f_law_path f_law_greedy f_links_of f_ahead_table f_next_spots f_explore f_law_cell f_law_digits f_law_links f_path_to f_law_changed f_follow f_changed_links f_new_ways f_law_followed f_law : Addr} (X : K.In h) (G : h.Ns mainGlobals mg) (hfa : mg "law" = some (.ref fa))
    {od_law_draw an_law_draw od_law_used an_law_used od_law_renamed an_law_renamed od_law_has_door an_law_has_door od_law_with_door an_law_with_door od_law_tile an_law_tile od_law_rows an_law_rows od_law_places an_law_places od_law_near an_law_near od_law_doors an_law_doors od_law_stations an_law_stations od_law_made an_law_made od_Floor__init an_Floor__init od_floor_of an_floor_of od_law_some an_law_some od_law_path an_law_path od_law_greedy an_law_greedy od_links_of an_links_of od_ahead_table an_ahead_table od_next_spots an_next_spots od_explore an_explore od_law_cell an_law_cell od_law_digits an_law_digits od_law_links an_law_links od_path_to an_path_to od_law_changed an_law_changed od_follow an_follow od_changed_links an_changed_links od_new_ways an_new_ways od_law_followed an_law_followed od_law an_law : Option Addr} {sl_law_draw sl_law_used sl_law_renamed sl_law_has_door sl_law_with_door sl_law_tile sl_law_rows sl_law_places sl_law_near sl_law_doors sl_law_stations sl_law_made sl_Floor__init sl_floor_of sl_law_some sl_law_path sl_law_greedy sl_links_of sl_ahead_table sl_next_spots sl_explore sl_law_cell sl_law_digits sl_law_links sl_path_to sl_law_changed sl_follow sl_changed_links sl_new_ways sl_law_followed sl_law : Array (Option Value)} {oc_law_draw kv_law_draw dc_law_draw pm_law_draw cd_law_draw ct_law_draw oc_law_used kv_law_used dc_law_used pm_law_used cd_law_used ct_law_used oc_law_renamed kv_law_renamed dc_law_renamed pm_law_renamed cd_law_renamed ct_law_renamed oc_law_has_door kv_law_has_door dc_law_has_door pm_law_has_door cd_law_has_door ct_law_has_door oc_law_with_door kv_law_with_door dc_law_with_door pm_law_with_door cd_law_with_door ct_law_with_door oc_law_tile kv_law_tile dc_law_tile pm_law_tile cd_law_tile ct_law_tile oc_law_rows kv_law_rows dc_law_rows pm_law_rows cd_law_rows ct_law_rows oc_law_places kv_law_places dc_law_places pm_law_places cd_law_places ct_law_places oc_law_near kv_law_near dc_law_near pm_law_near cd_law_near ct_law_near oc_law_doors kv_law_doors dc_law_doors pm_law_doors cd_law_doors ct_law_doors oc_law_stations kv_law_stations dc_law_stations pm_law_stations cd_law_stations ct_law_stations oc_law_made kv_law_made dc_law_made pm_law_made cd_law_made ct_law_made oc_Floor__init kv_Floor__init dc_Floor__init pm_Floor__init cd_Floor__init ct_Floor__init oc_floor_of kv_floor_of dc_floor_of pm_floor_of cd_floor_of ct_floor_of oc_law_some kv_law_some dc_law_some pm_law_some cd_law_some ct_law_some oc_law_path kv_law_path dc_law_path pm_law_path cd_law_path ct_law_path oc_law_greedy kv_law_greedy dc_law_greedy pm_law_greedy cd_law_greedy ct_law_greedy oc_links_of kv_links_of dc_links_of pm_links_of cd_links_of ct_links_of oc_ahead_table kv_ahead_table dc_ahead_table pm_ahead_table cd_ahead_table ct_ahead_table oc_next_spots kv_next_spots dc_next_spots pm_next_spots cd_next_spots ct_next_spots oc_explore kv_explore dc_explore pm_explore cd_explore ct_explore oc_law_cell kv_law_cell dc_law_cell pm_law_cell cd_law_cell ct_law_cell oc_law_digits kv_law_digits dc_law_digits pm_law_digits cd_law_digits ct_law_digits oc_law_links kv_law_links dc_law_links pm_law_links cd_law_links ct_law_links oc_path_to kv_path_to dc_path_to pm_path_to cd_path_to ct_path_to oc_law_changed kv_law_changed dc_law_changed pm_law_changed cd_law_changed ct_law_changed oc_follow kv_follow dc_follow pm_follow cd_follow ct_follow oc_changed_links kv_changed_links dc_changed_links pm_changed_links cd_changed_links ct_changed_links oc_new_ways kv_new_ways dc_new_ways pm_new_ways cd_new_ways ct_new_ways oc_law_followed kv_law_followed dc_law_followed pm_law_followed cd_law_followed ct_law_followed oc_law kv_law dc_law pm_law cd_law ct_law : Value}
    (aCFloor : PySem.W.nsIn K mainGlobals "Floor" = some (some (.ref CFloor)))
    (pgFloor : PySem.W.plainGet K CFloor Str.empty = true)
    (hdFloor : PySem.W.hasDictIn K CFloor = true)
    (poFloor : PySem.W.plainOver K CFloor = true)
    (saFloor : PySem.W.findIn K (.ref CFloor) "__setattr__" = some (some (.builtin "object.__setattr__")))
    (mkFloor : PySem.W.makesIn K CFloor = true)
    (kcFloor : PySem.W.keepIn K (.ref CFloor) = true)
    (n_Floor_depot : PySem.W.findIn K (.ref CFloor) "depot" = some none)
    (n_Floor_doors : PySem.W.findIn K (.ref CFloor) "doors" = some none)
    (n_Floor_near : PySem.W.findIn K (.ref CFloor) "near" = some none)
    (n_Floor_places : PySem.W.findIn K (.ref CFloor) "places" = some none)
    (n_Floor_size : PySem.W.findIn K (.ref CFloor) "size" = some none)
    (n_Floor_stations : PySem.W.findIn K (.ref CFloor) "stations" = some none)
    (nb_abs : PySem.W.nsIn K mainGlobals "abs" = some none)
    (nb_dict : PySem.W.nsIn K mainGlobals "dict" = some none)
    (nb_int : PySem.W.nsIn K mainGlobals "int" = some none)
    (nb_isinstance : PySem.W.nsIn K mainGlobals "isinstance" = some none)
    (nb_len : PySem.W.nsIn K mainGlobals "len" = some none)
    (nb_list : PySem.W.nsIn K mainGlobals "list" = some none)
    (nb_range : PySem.W.nsIn K mainGlobals "range" = some none)
    (nb_set : PySem.W.nsIn K mainGlobals "set" = some none)
    (nb_sorted : PySem.W.nsIn K mainGlobals "sorted" = some none)
    (nb_zip : PySem.W.nsIn K mainGlobals "zip" = some none)
    (a_law_draw : PySem.W.nsIn K mainGlobals "_law_draw" = some (some (.ref f_law_draw)))
    (l_law_draw : K.lookup f_law_draw = some ⟨oc_law_draw, od_law_draw, .func (PySem.W.fnOf "_law_draw" "_law_draw" (defArgs s_law_draw) (defBody s_law_draw) (defScope s_law_draw) .none kv_law_draw dc_law_draw pm_law_draw an_law_draw cd_law_draw ct_law_draw), sl_law_draw⟩)
    (c_law_draw : PySem.W.codeIn K cd_law_draw "_law_draw" = true)
    (k_law_draw : PySem.W.keepIn K (.ref f_law_draw) = true)
    (a_law_used : PySem.W.nsIn K mainGlobals "_law_used" = some (some (.ref f_law_used)))
    (l_law_used : K.lookup f_law_used = some ⟨oc_law_used, od_law_used, .func (PySem.W.fnOf "_law_used" "_law_used" (defArgs s_law_used) (defBody s_law_used) (defScope s_law_used) .none kv_law_used dc_law_used pm_law_used an_law_used cd_law_used ct_law_used), sl_law_used⟩)
    (c_law_used : PySem.W.codeIn K cd_law_used "_law_used" = true)
    (k_law_used : PySem.W.keepIn K (.ref f_law_used) = true)
    (a_law_renamed : PySem.W.nsIn K mainGlobals "_law_renamed" = some (some (.ref f_law_renamed)))
    (l_law_renamed : K.lookup f_law_renamed = some ⟨oc_law_renamed, od_law_renamed, .func (PySem.W.fnOf "_law_renamed" "_law_renamed" (defArgs s_law_renamed) (defBody s_law_renamed) (defScope s_law_renamed) .none kv_law_renamed dc_law_renamed pm_law_renamed an_law_renamed cd_law_renamed ct_law_renamed), sl_law_renamed⟩)
    (c_law_renamed : PySem.W.codeIn K cd_law_renamed "_law_renamed" = true)
    (k_law_renamed : PySem.W.keepIn K (.ref f_law_renamed) = true)
    (a_law_has_door : PySem.W.nsIn K mainGlobals "_law_has_door" = some (some (.ref f_law_has_door)))
    (l_law_has_door : K.lookup f_law_has_door = some ⟨oc_law_has_door, od_law_has_door, .func (PySem.W.fnOf "_law_has_door" "_law_has_door" (defArgs s_law_has_door) (defBody s_law_has_door) (defScope s_law_has_door) .none kv_law_has_door dc_law_has_door pm_law_has_door an_law_has_door cd_law_has_door ct_law_has_door), sl_law_has_door⟩)
    (c_law_has_door : PySem.W.codeIn K cd_law_has_door "_law_has_door" = true)
    (k_law_has_door : PySem.W.keepIn K (.ref f_law_has_door) = true)
    (a_law_with_door : PySem.W.nsIn K mainGlobals "_law_with_door" = some (some (.ref f_law_with_door)))
    (l_law_with_door : K.lookup f_law_with_door = some ⟨oc_law_with_door, od_law_with_door, .func (PySem.W.fnOf "_law_with_door" "_law_with_door" (defArgs s_law_with_door) (defBody s_law_with_door) (defScope s_law_with_door) .none kv_law_with_door dc_law_with_door pm_law_with_door an_law_with_door cd_law_with_door ct_law_with_door), sl_law_with_door⟩)
    (c_law_with_door : PySem.W.codeIn K cd_law_with_door "_law_with_door" = true)
    (k_law_with_door : PySem.W.keepIn K (.ref f_law_with_door) = true)
    (a_law_tile : PySem.W.nsIn K mainGlobals "_law_tile" = some (some (.ref f_law_tile)))
    (l_law_tile : K.lookup f_law_tile = some ⟨oc_law_tile, od_law_tile, .func (PySem.W.fnOf "_law_tile" "_law_tile" (defArgs s_law_tile) (defBody s_law_tile) (defScope s_law_tile) .none kv_law_tile dc_law_tile pm_law_tile an_law_tile cd_law_tile ct_law_tile), sl_law_tile⟩)
    (c_law_tile : PySem.W.codeIn K cd_law_tile "_law_tile" = true)
    (k_law_tile : PySem.W.keepIn K (.ref f_law_tile) = true)
    (a_law_rows : PySem.W.nsIn K mainGlobals "_law_rows" = some (some (.ref f_law_rows)))
    (l_law_rows : K.lookup f_law_rows = some ⟨oc_law_rows, od_law_rows, .func (PySem.W.fnOf "_law_rows" "_law_rows" (defArgs s_law_rows) (defBody s_law_rows) (defScope s_law_rows) .none kv_law_rows dc_law_rows pm_law_rows an_law_rows cd_law_rows ct_law_rows), sl_law_rows⟩)
    (c_law_rows : PySem.W.codeIn K cd_law_rows "_law_rows" = true)
    (k_law_rows : PySem.W.keepIn K (.ref f_law_rows) = true)
    (a_law_places : PySem.W.nsIn K mainGlobals "_law_places" = some (some (.ref f_law_places)))
    (l_law_places : K.lookup f_law_places = some ⟨oc_law_places, od_law_places, .func (PySem.W.fnOf "_law_places" "_law_places" (defArgs s_law_places) (defBody s_law_places) (defScope s_law_places) .none kv_law_places dc_law_places pm_law_places an_law_places cd_law_places ct_law_places), sl_law_places⟩)
    (c_law_places : PySem.W.codeIn K cd_law_places "_law_places" = true)
    (k_law_places : PySem.W.keepIn K (.ref f_law_places) = true)
    (a_law_near : PySem.W.nsIn K mainGlobals "_law_near" = some (some (.ref f_law_near)))
    (l_law_near : K.lookup f_law_near = some ⟨oc_law_near, od_law_near, .func (PySem.W.fnOf "_law_near" "_law_near" (defArgs s_law_near) (defBody s_law_near) (defScope s_law_near) .none kv_law_near dc_law_near pm_law_near an_law_near cd_law_near ct_law_near), sl_law_near⟩)
    (c_law_near : PySem.W.codeIn K cd_law_near "_law_near" = true)
    (k_law_near : PySem.W.keepIn K (.ref f_law_near) = true)
    (a_law_doors : PySem.W.nsIn K mainGlobals "_law_doors" = some (some (.ref f_law_doors)))
    (l_law_doors : K.lookup f_law_doors = some ⟨oc_law_doors, od_law_doors, .func (PySem.W.fnOf "_law_doors" "_law_doors" (defArgs s_law_doors) (defBody s_law_doors) (defScope s_law_doors) .none kv_law_doors dc_law_doors pm_law_doors an_law_doors cd_law_doors ct_law_doors), sl_law_doors⟩)
    (c_law_doors : PySem.W.codeIn K cd_law_doors "_law_doors" = true)
    (k_law_doors : PySem.W.keepIn K (.ref f_law_doors) = true)
    (a_law_stations : PySem.W.nsIn K mainGlobals "_law_stations" = some (some (.ref f_law_stations)))
    (l_law_stations : K.lookup f_law_stations = some ⟨oc_law_stations, od_law_stations, .func (PySem.W.fnOf "_law_stations" "_law_stations" (defArgs s_law_stations) (defBody s_law_stations) (defScope s_law_stations) .none kv_law_stations dc_law_stations pm_law_stations an_law_stations cd_law_stations ct_law_stations), sl_law_stations⟩)
    (c_law_stations : PySem.W.codeIn K cd_law_stations "_law_stations" = true)
    (k_law_stations : PySem.W.keepIn K (.ref f_law_stations) = true)
    (a_law_made : PySem.W.nsIn K mainGlobals "_law_made" = some (some (.ref f_law_made)))
    (l_law_made : K.lookup f_law_made = some ⟨oc_law_made, od_law_made, .func (PySem.W.fnOf "_law_made" "_law_made" (defArgs s_law_made) (defBody s_law_made) (defScope s_law_made) .none kv_law_made dc_law_made pm_law_made an_law_made cd_law_made ct_law_made), sl_law_made⟩)
    (c_law_made : PySem.W.codeIn K cd_law_made "_law_made" = true)
    (k_law_made : PySem.W.keepIn K (.ref f_law_made) = true)
    (a_Floor__init : PySem.W.findIn K (.ref CFloor) "__init__" = some (some (.ref f_Floor__init)))
    (i_Floor__init : PySem.W.isFn K (.ref f_Floor__init) = true)
    (l_Floor__init : K.lookup f_Floor__init = some ⟨oc_Floor__init, od_Floor__init, .func (PySem.W.fnOf "__init__" "Floor.__init__" (defArgs s_Floor__init) (defBody s_Floor__init) (defScope s_Floor__init) .none kv_Floor__init dc_Floor__init pm_Floor__init an_Floor__init cd_Floor__init ct_Floor__init), sl_Floor__init⟩)
    (c_Floor__init : PySem.W.codeIn K cd_Floor__init "Floor.__init__" = true)
    (k_Floor__init : PySem.W.keepIn K (.ref f_Floor__init) = true)
    (a_floor_of : PySem.W.nsIn K mainGlobals "floor_of" = some (some (.ref f_floor_of)))
    (l_floor_of : K.lookup f_floor_of = some ⟨oc_floor_of, od_floor_of, .func (PySem.W.fnOf "floor_of" "floor_of" (defArgs s_floor_of) (defBody s_floor_of) (defScope s_floor_of) .none kv_floor_of dc_floor_of pm_floor_of an_floor_of cd_floor_of ct_floor_of), sl_floor_of⟩)
    (c_floor_of : PySem.W.codeIn K cd_floor_of "floor_of" = true)
    (k_floor_of : PySem.W.keepIn K (.ref f_floor_of) = true)
    (a_law_some : PySem.W.nsIn K mainGlobals "_law_some" = some (some (.ref f_law_some)))
    (l_law_some : K.lookup f_law_some = some ⟨oc_law_some, od_law_some, .func (PySem.W.fnOf "_law_some" "_law_some" (defArgs s_law_some) (defBody s_law_some) (defScope s_law_some) .none kv_law_some dc_law_some pm_law_some an_law_some cd_law_some ct_law_some), sl_law_some⟩)
    (c_law_some : PySem.W.codeIn K cd_law_some "_law_some" = true)
    (k_law_some : PySem.W.keepIn K (.ref f_law_some) = true)
    (a_law_path : PySem.W.nsIn K mainGlobals "_law_path" = some (some (.ref f_law_path)))
    (l_law_path : K.lookup f_law_path = some ⟨oc_law_path, od_law_path, .func (PySem.W.fnOf "_law_path" "_law_path" (defArgs s_law_path) (defBody s_law_path) (defScope s_law_path) .none kv_law_path dc_law_path pm_law_path an_law_path cd_law_path ct_law_path), sl_law_path⟩)
    (c_law_path : PySem.W.codeIn K cd_law_path "_law_path" = true)
    (k_law_path : PySem.W.keepIn K (.ref f_law_path) = true)
    (a_law_greedy : PySem.W.nsIn K mainGlobals "_law_greedy" = some (some (.ref f_law_greedy)))
    (l_law_greedy : K.lookup f_law_greedy = some ⟨oc_law_greedy, od_law_greedy, .func (PySem.W.fnOf "_law_greedy" "_law_greedy" (defArgs s_law_greedy) (defBody s_law_greedy) (defScope s_law_greedy) .none kv_law_greedy dc_law_greedy pm_law_greedy an_law_greedy cd_law_greedy ct_law_greedy), sl_law_greedy⟩)
    (c_law_greedy : PySem.W.codeIn K cd_law_greedy "_law_greedy" = true)
    (k_law_greedy : PySem.W.keepIn K (.ref f_law_greedy) = true)
    (a_links_of : PySem.W.nsIn K mainGlobals "links_of" = some (some (.ref f_links_of)))
    (l_links_of : K.lookup f_links_of = some ⟨oc_links_of, od_links_of, .func (PySem.W.fnOf "links_of" "links_of" (defArgs s_links_of) (defBody s_links_of) (defScope s_links_of) .none kv_links_of dc_links_of pm_links_of an_links_of cd_links_of ct_links_of), sl_links_of⟩)
    (c_links_of : PySem.W.codeIn K cd_links_of "links_of" = true)
    (k_links_of : PySem.W.keepIn K (.ref f_links_of) = true)
    (a_ahead_table : PySem.W.nsIn K mainGlobals "ahead_table" = some (some (.ref f_ahead_table)))
    (l_ahead_table : K.lookup f_ahead_table = some ⟨oc_ahead_table, od_ahead_table, .func (PySem.W.fnOf "ahead_table" "ahead_table" (defArgs s_ahead_table) (defBody s_ahead_table) (defScope s_ahead_table) .none kv_ahead_table dc_ahead_table pm_ahead_table an_ahead_table cd_ahead_table ct_ahead_table), sl_ahead_table⟩)
    (c_ahead_table : PySem.W.codeIn K cd_ahead_table "ahead_table" = true)
    (k_ahead_table : PySem.W.keepIn K (.ref f_ahead_table) = true)
    (a_next_spots : PySem.W.nsIn K mainGlobals "next_spots" = some (some (.ref f_next_spots)))
    (l_next_spots : K.lookup f_next_spots = some ⟨oc_next_spots, od_next_spots, .func (PySem.W.fnOf "next_spots" "next_spots" (defArgs s_next_spots) (defBody s_next_spots) (defScope s_next_spots) .none kv_next_spots dc_next_spots pm_next_spots an_next_spots cd_next_spots ct_next_spots), sl_next_spots⟩)
    (c_next_spots : PySem.W.codeIn K cd_next_spots "next_spots" = true)
    (k_next_spots : PySem.W.keepIn K (.ref f_next_spots) = true)
    (a_explore : PySem.W.nsIn K mainGlobals "explore" = some (some (.ref f_explore)))
    (l_explore : K.lookup f_explore = some ⟨oc_explore, od_explore, .func (PySem.W.fnOf "explore" "explore" (defArgs s_explore) (defBody s_explore) (defScope s_explore) .none kv_explore dc_explore pm_explore an_explore cd_explore ct_explore), sl_explore⟩)
    (c_explore : PySem.W.codeIn K cd_explore "explore" = true)
    (k_explore : PySem.W.keepIn K (.ref f_explore) = true)
    (a_law_cell : PySem.W.nsIn K mainGlobals "_law_cell" = some (some (.ref f_law_cell)))
    (l_law_cell : K.lookup f_law_cell = some ⟨oc_law_cell, od_law_cell, .func (PySem.W.fnOf "_law_cell" "_law_cell" (defArgs s_law_cell) (defBody s_law_cell) (defScope s_law_cell) .none kv_law_cell dc_law_cell pm_law_cell an_law_cell cd_law_cell ct_law_cell), sl_law_cell⟩)
    (c_law_cell : PySem.W.codeIn K cd_law_cell "_law_cell" = true)
    (k_law_cell : PySem.W.keepIn K (.ref f_law_cell) = true)
    (a_law_digits : PySem.W.nsIn K mainGlobals "_law_digits" = some (some (.ref f_law_digits)))
    (l_law_digits : K.lookup f_law_digits = some ⟨oc_law_digits, od_law_digits, .func (PySem.W.fnOf "_law_digits" "_law_digits" (defArgs s_law_digits) (defBody s_law_digits) (defScope s_law_digits) .none kv_law_digits dc_law_digits pm_law_digits an_law_digits cd_law_digits ct_law_digits), sl_law_digits⟩)
    (c_law_digits : PySem.W.codeIn K cd_law_digits "_law_digits" = true)
    (k_law_digits : PySem.W.keepIn K (.ref f_law_digits) = true)
    (a_law_links : PySem.W.nsIn K mainGlobals "_law_links" = some (some (.ref f_law_links)))
    (l_law_links : K.lookup f_law_links = some ⟨oc_law_links, od_law_links, .func (PySem.W.fnOf "_law_links" "_law_links" (defArgs s_law_links) (defBody s_law_links) (defScope s_law_links) .none kv_law_links dc_law_links pm_law_links an_law_links cd_law_links ct_law_links), sl_law_links⟩)
    (c_law_links : PySem.W.codeIn K cd_law_links "_law_links" = true)
    (k_law_links : PySem.W.keepIn K (.ref f_law_links) = true)
    (a_path_to : PySem.W.nsIn K mainGlobals "path_to" = some (some (.ref f_path_to)))
    (l_path_to : K.lookup f_path_to = some ⟨oc_path_to, od_path_to, .func (PySem.W.fnOf "path_to" "path_to" (defArgs s_path_to) (defBody s_path_to) (defScope s_path_to) .none kv_path_to dc_path_to pm_path_to an_path_to cd_path_to ct_path_to), sl_path_to⟩)
    (c_path_to : PySem.W.codeIn K cd_path_to "path_to" = true)
    (k_path_to : PySem.W.keepIn K (.ref f_path_to) = true)
    (a_law_changed : PySem.W.nsIn K mainGlobals "_law_changed" = some (some (.ref f_law_changed)))
    (l_law_changed : K.lookup f_law_changed = some ⟨oc_law_changed, od_law_changed, .func (PySem.W.fnOf "_law_changed" "_law_changed" (defArgs s_law_changed) (defBody s_law_changed) (defScope s_law_changed) .none kv_law_changed dc_law_changed pm_law_changed an_law_changed cd_law_changed ct_law_changed), sl_law_changed⟩)
    (c_law_changed : PySem.W.codeIn K cd_law_changed "_law_changed" = true)
    (k_law_changed : PySem.W.keepIn K (.ref f_law_changed) = true)
    (a_follow : PySem.W.nsIn K mainGlobals "follow" = some (some (.ref f_follow)))
    (l_follow : K.lookup f_follow = some ⟨oc_follow, od_follow, .func (PySem.W.fnOf "follow" "follow" (defArgs s_follow) (defBody s_follow) (defScope s_follow) .none kv_follow dc_follow pm_follow an_follow cd_follow ct_follow), sl_follow⟩)
    (c_follow : PySem.W.codeIn K cd_follow "follow" = true)
    (k_follow : PySem.W.keepIn K (.ref f_follow) = true)
    (a_changed_links : PySem.W.nsIn K mainGlobals "changed_links" = some (some (.ref f_changed_links)))
    (l_changed_links : K.lookup f_changed_links = some ⟨oc_changed_links, od_changed_links, .func (PySem.W.fnOf "changed_links" "changed_links" (defArgs s_changed_links) (defBody s_changed_links) (defScope s_changed_links) .none kv_changed_links dc_changed_links pm_changed_links an_changed_links cd_changed_links ct_changed_links), sl_changed_links⟩)
    (c_changed_links : PySem.W.codeIn K cd_changed_links "changed_links" = true)
    (k_changed_links : PySem.W.keepIn K (.ref f_changed_links) = true)
    (a_new_ways : PySem.W.nsIn K mainGlobals "new_ways" = some (some (.ref f_new_ways)))
    (l_new_ways : K.lookup f_new_ways = some ⟨oc_new_ways, od_new_ways, .func (PySem.W.fnOf "new_ways" "new_ways" (defArgs s_new_ways) (defBody s_new_ways) (defScope s_new_ways) .none kv_new_ways dc_new_ways pm_new_ways an_new_ways cd_new_ways ct_new_ways), sl_new_ways⟩)
    (c_new_ways : PySem.W.codeIn K cd_new_ways "new_ways" = true)
    (k_new_ways : PySem.W.keepIn K (.ref f_new_ways) = true)
    (a_law_followed : PySem.W.nsIn K mainGlobals "_law_followed" = some (some (.ref f_law_followed)))
    (l_law_followed : K.lookup f_law_followed = some ⟨oc_law_followed, od_law_followed, .func (PySem.W.fnOf "_law_followed" "_law_followed" (defArgs s_law_followed) (defBody s_law_followed) (defScope s_law_followed) .none kv_law_followed dc_law_followed pm_law_followed an_law_followed cd_law_followed ct_law_followed), sl_law_followed⟩)
    (c_law_followed : PySem.W.codeIn K cd_law_followed "_law_followed" = true)
    (k_law_followed : PySem.W.keepIn K (.ref f_law_followed) = true)
    (a_law : PySem.W.nsIn K mainGlobals "law" = some (some (.ref f_law)))
    (l_law : K.lookup f_law = some ⟨oc_law, od_law, .func (PySem.W.fnOf "law" "law" (defArgs s_law) (defBody s_law) (defScope s_law) .none kv_law dc_law pm_law an_law cd_law ct_law), sl_law⟩)
    (c_law : PySem.W.codeIn K cd_law "law" = true)
    (k_law : PySem.W.keepIn K (.ref f_law) = true) :
    ∃ fd : FuncData, (∀ (s : Shared) (v : Value), BindsTo s fd ⟨[v], []⟩ [("script", v)]) ∧ ∀ base : Heap, K.In base → base.Ns mainGlobals mg → FnG l.prog w K mg base CX0 5 fa fd ["script"] (spLaw K) := by
  have e := hfa.symm.trans (PySem.W.mg_of X G a_law)
  cases e
  refine ⟨PySem.W.fnOf "law" "law" (defArgs s_law) (defBody s_law) (defScope s_law) .none kv_law dc_law pm_law an_law cd_law ct_law, fun s v => .of_eq rfl, fun base _ _ => ?_⟩
  let c : Pc := ⟨l.prog, w, K, mg, base, fun s => if s = "Floor" then some CFloor else (fun _ => none) s⟩
  have hCFloor : c.cl "Floor" = some CFloor := by simp [c]
  have c0Floor : Cls c.K CFloor := ⟨pgFloor, hdFloor, poFloor, saFloor⟩
  have hmFloor : c.mg "Floor" = some (.ref CFloor) := PySem.W.mg_of X G aCFloor
  have T : Txt c := {
    b_abs := PySem.W.mg_none_of X G nb_abs,
    b_dict := PySem.W.mg_none_of X G nb_dict,
    b_int := PySem.W.mg_none_of X G nb_int,
    b_isinstance := PySem.W.mg_none_of X G nb_isinstance,
    b_len := PySem.W.mg_none_of X G nb_len,
    b_list := PySem.W.mg_none_of X G nb_list,
    b_range := PySem.W.mg_none_of X G nb_range,
    b_set := PySem.W.mg_none_of X G nb_set,
    b_sorted := PySem.W.mg_none_of X G nb_sorted,
    b_zip := PySem.W.mg_none_of X G nb_zip,
    f_Floor_depot := fun C hC => by rw [hCFloor] at hC; cases hC; exact ⟨c0Floor, n_Floor_depot⟩,
    f_Floor_doors := fun C hC => by rw [hCFloor] at hC; cases hC; exact ⟨c0Floor, n_Floor_doors⟩,
    f_Floor_near := fun C hC => by rw [hCFloor] at hC; cases hC; exact ⟨c0Floor, n_Floor_near⟩,
    f_Floor_places := fun C hC => by rw [hCFloor] at hC; cases hC; exact ⟨c0Floor, n_Floor_places⟩,
    f_Floor_size := fun C hC => by rw [hCFloor] at hC; cases hC; exact ⟨c0Floor, n_Floor_size⟩,
    f_Floor_stations := fun C hC => by rw [hCFloor] at hC; cases hC; exact ⟨c0Floor, n_Floor_stations⟩ }
  have G_law_draw := g_law_draw (c := c) T (fun_mk (st := s_law_draw) l_law_draw c_law_draw k_law_draw) (PySem.W.mg_of X G a_law_draw)
  have G_law_used := g_law_used (c := c) T (fun_mk (st := s_law_used) l_law_used c_law_used k_law_used) (PySem.W.mg_of X G a_law_used)
  have G_law_renamed := g_law_renamed (c := c) T (fun_mk (st := s_law_renamed) l_law_renamed c_law_renamed k_law_renamed) (PySem.W.mg_of X G a_law_renamed)
  have G_law_has_door := g_law_has_door (c := c) T (fun_mk (st := s_law_has_door) l_law_has_door c_law_has_door k_law_has_door) (PySem.W.mg_of X G a_law_has_door)
  have G_law_with_door := g_law_with_door (c := c) T (fun_mk (st := s_law_with_door) l_law_with_door c_law_with_door k_law_with_door) (PySem.W.mg_of X G a_law_with_door)
  have G_law_tile := g_law_tile (c := c) T (fun_mk (st := s_law_tile) l_law_tile c_law_tile k_law_tile) (PySem.W.mg_of X G a_law_tile) G_law_draw
  have G_law_rows := g_law_rows (c := c) T (fun_mk (st := s_law_rows) l_law_rows c_law_rows k_law_rows) (PySem.W.mg_of X G a_law_rows) G_law_draw G_law_tile G_law_used G_law_renamed G_law_has_door G_law_with_door
  have G_law_places := g_law_places (c := c) T (fun_mk (st := s_law_places) l_law_places c_law_places k_law_places) (PySem.W.mg_of X G a_law_places)
  have G_law_near := g_law_near (c := c) T (fun_mk (st := s_law_near) l_law_near c_law_near k_law_near) (PySem.W.mg_of X G a_law_near)
  have G_law_doors := g_law_doors (c := c) T (fun_mk (st := s_law_doors) l_law_doors c_law_doors k_law_doors) (PySem.W.mg_of X G a_law_doors)
  have G_law_stations := g_law_stations (c := c) T (fun_mk (st := s_law_stations) l_law_stations c_law_stations k_law_stations) (PySem.W.mg_of X G a_law_stations)
  have G_law_made := g_law_made (c := c) T (fun_mk (st := s_law_made) l_law_made c_law_made k_law_made) (PySem.W.mg_of X G a_law_made) G_law_rows G_law_places G_law_near G_law_doors G_law_stations
  have G_Floor__init := g_Floor__init (c := c) T (fun_mk (st := s_Floor__init) l_Floor__init c_Floor__init k_Floor__init) hCFloor hmFloor ⟨mkFloor, a_Floor__init, i_Floor__init, kcFloor⟩
  have G_floor_of := g_floor_of (c := c) T (fun_mk (st := s_floor_of) l_floor_of c_floor_of k_floor_of) (PySem.W.mg_of X G a_floor_of) G_Floor__init
  have G_law_some := g_law_some (c := c) T (fun_mk (st := s_law_some) l_law_some c_law_some k_law_some) (PySem.W.mg_of X G a_law_some) G_law_draw
  have G_law_path := g_law_path (c := c) T (fun_mk (st := s_law_path) l_law_path c_law_path k_law_path) (PySem.W.mg_of X G a_law_path)
  have G_law_greedy := g_law_greedy (c := c) T (fun_mk (st := s_law_greedy) l_law_greedy c_law_greedy k_law_greedy) (PySem.W.mg_of X G a_law_greedy) G_law_path
  have G_links_of := g_links_of (c := c) T (fun_mk (st := s_links_of) l_links_of c_links_of k_links_of) (PySem.W.mg_of X G a_links_of)
  have G_ahead_table := g_ahead_table (c := c) T (fun_mk (st := s_ahead_table) l_ahead_table c_ahead_table k_ahead_table) (PySem.W.mg_of X G a_ahead_table)
  have G_next_spots := g_next_spots (c := c) T (fun_mk (st := s_next_spots) l_next_spots c_next_spots k_next_spots) (PySem.W.mg_of X G a_next_spots)
  have G_explore := g_explore (c := c) T (fun_mk (st := s_explore) l_explore c_explore k_explore) (PySem.W.mg_of X G a_explore) G_ahead_table G_next_spots
  have G_law_cell := g_law_cell (c := c) T (fun_mk (st := s_law_cell) l_law_cell c_law_cell k_law_cell) (PySem.W.mg_of X G a_law_cell)
  have G_law_digits := g_law_digits (c := c) T (fun_mk (st := s_law_digits) l_law_digits c_law_digits k_law_digits) (PySem.W.mg_of X G a_law_digits) G_law_cell
  have G_law_links := g_law_links (c := c) T (fun_mk (st := s_law_links) l_law_links c_law_links k_law_links) (PySem.W.mg_of X G a_law_links)
  have G_path_to := g_path_to (c := c) T (fun_mk (st := s_path_to) l_path_to c_path_to k_path_to) (PySem.W.mg_of X G a_path_to)
  have G_law_changed := g_law_changed (c := c) T (fun_mk (st := s_law_changed) l_law_changed c_law_changed k_law_changed) (PySem.W.mg_of X G a_law_changed)
  have G_follow := g_follow (c := c) T (fun_mk (st := s_follow) l_follow c_follow k_follow) (PySem.W.mg_of X G a_follow)
  have G_changed_links := g_changed_links (c := c) T (fun_mk (st := s_changed_links) l_changed_links c_changed_links k_changed_links) (PySem.W.mg_of X G a_changed_links)
  have G_new_ways := g_new_ways (c := c) T (fun_mk (st := s_new_ways) l_new_ways c_new_ways k_new_ways) (PySem.W.mg_of X G a_new_ways) G_changed_links G_links_of G_follow
  have G_law_followed := g_law_followed (c := c) T (fun_mk (st := s_law_followed) l_law_followed c_law_followed k_law_followed) (PySem.W.mg_of X G a_law_followed)
  have L := fn_ok (P := l.prog) (w := w) (K := K) (mg := mg) (base := base) (cl := c.cl) (k := 4) (fun_mk (st := s_law) l_law c_law k_law) sc_law (b_law (c := c) T G_law_digits G_law_made G_floor_of G_law_some G_law_greedy G_links_of G_law_links G_explore G_path_to G_law_changed G_changed_links G_new_ways G_law_followed G_follow)
  refine L.imp fun vs H Q E hs => ?_
  obtain ⟨a, ns, rfl, hS, hl, hQ⟩ := hs
  obtain ⟨env, he⟩ := law_true ns hl
  have nT : ∀ b, ¬ IsTab c.cl b := fun b hb => by
    obtain ⟨x, hx⟩ := hb
    simp only [c] at hx
    split at hx
    · rename_i e; exact tabKey_ne _ _ (by decide) e
    cases hx
  exact spLaw_of (md := .imm) rfl (fun b hb => absurd hb (nT b)) ⟨H, Same.refl _, fun b hb => absurd hb (nT b), hS⟩ he hQ
end
theorem walk {l : PySem.W.OpenLaw} {q : Program} {loose : List Str} {XP : (Str → Option Value) → Heap → Prop} {YP : World → Heap → Prop} {d : DefRec} {K : Params → PySem.W.Frag} (hn : l.most = some 63) (hdf : d.params.defaults = [])
    (hY : ∀ (w : World) (h : Heap), YP w h → (K w.params).In h)
    (F : ∀ (w : World) (mg : Str → Option Value) (fa : Addr) (h : Heap), (K w.params).In h → h.Ns mainGlobals mg → mg d.name = some (.ref fa) →
      ∃ fd : FuncData, (∀ (s : Shared) (u : Value), BindsTo s fd ⟨[u], []⟩ [("script", u)]) ∧ ∀ base : Heap, (K w.params).In base → base.Ns mainGlobals mg → FnG l.prog w (K w.params) mg base CX0 5 fa fd ["script"] (spLaw (K w.params))) :
    PySem.W.WalkO q loose XP YP l.row.toRowW d [] (fun f vs => PySem.call f vs) :=
  walk_G (n := 63) (k := 5) (x := "script") (CX := CX0) (sp := spLaw) hn (by decide) hdf ⟨rfl, by decide, by decide⟩ hY F (fun _ _ a ns hl hS => ⟨a, ns, rfl, hS, hl, fun _ => rfl⟩) fun _ _ _ _ z => z
end Law
open PySem PySem.W PyProof.Rows
set_option maxRecDepth 100000 in
set_option maxHeartbeats 0 in
theorem PySem.Challenge.cw_clearfloor_k09_links_change_along_a_path_holds : PySem.Challenge.rw_clearfloor_k09_links_change_along_a_path.Holds := by
  w_on; o_law; k_head; (case hw => w_witness2)
  k_fill
  refine Law.walk (l := PySem.Challenge.rw_clearfloor_k09_links_change_along_a_path) rfl rfl (fun w h Y => PySem.W.kIn_of Y) ?F
  case F =>
    intro w mg fa h KX G hmg
    refine' Law.all_mk KX G hmg ?aCFloor ?pgFloor ?hdFloor ?poFloor ?saFloor ?mkFloor ?kcFloor ?n_Floor_depot ?n_Floor_doors ?n_Floor_near ?n_Floor_places ?n_Floor_size ?n_Floor_stations ?nb_abs ?nb_dict ?nb_int ?nb_isinstance ?nb_len ?nb_list ?nb_range ?nb_set ?nb_sorted ?nb_zip ?a_law_draw ?l_law_draw ?c_law_draw ?k_law_draw ?a_law_used ?l_law_used ?c_law_used ?k_law_used ?a_law_renamed ?l_law_renamed ?c_law_renamed ?k_law_renamed ?a_law_has_door ?l_law_has_door ?c_law_has_door ?k_law_has_door ?a_law_with_door ?l_law_with_door ?c_law_with_door ?k_law_with_door ?a_law_tile ?l_law_tile ?c_law_tile ?k_law_tile ?a_law_rows ?l_law_rows ?c_law_rows ?k_law_rows ?a_law_places ?l_law_places ?c_law_places ?k_law_places ?a_law_near ?l_law_near ?c_law_near ?k_law_near ?a_law_doors ?l_law_doors ?c_law_doors ?k_law_doors ?a_law_stations ?l_law_stations ?c_law_stations ?k_law_stations ?a_law_made ?l_law_made ?c_law_made ?k_law_made ?a_Floor__init ?i_Floor__init ?l_Floor__init ?c_Floor__init ?k_Floor__init ?a_floor_of ?l_floor_of ?c_floor_of ?k_floor_of ?a_law_some ?l_law_some ?c_law_some ?k_law_some ?a_law_path ?l_law_path ?c_law_path ?k_law_path ?a_law_greedy ?l_law_greedy ?c_law_greedy ?k_law_greedy ?a_links_of ?l_links_of ?c_links_of ?k_links_of ?a_ahead_table ?l_ahead_table ?c_ahead_table ?k_ahead_table ?a_next_spots ?l_next_spots ?c_next_spots ?k_next_spots ?a_explore ?l_explore ?c_explore ?k_explore ?a_law_cell ?l_law_cell ?c_law_cell ?k_law_cell ?a_law_digits ?l_law_digits ?c_law_digits ?k_law_digits ?a_law_links ?l_law_links ?c_law_links ?k_law_links ?a_path_to ?l_path_to ?c_path_to ?k_path_to ?a_law_changed ?l_law_changed ?c_law_changed ?k_law_changed ?a_follow ?l_follow ?c_follow ?k_follow ?a_changed_links ?l_changed_links ?c_changed_links ?k_changed_links ?a_new_ways ?l_new_ways ?c_new_ways ?k_new_ways ?a_law_followed ?l_law_followed ?c_law_followed ?k_law_followed ?a_law ?l_law ?c_law ?k_law
    (case aCFloor => k_is)
    (case pgFloor => k_is)
    (case hdFloor => k_is)
    (case poFloor => k_is)
    (case saFloor => k_is)
    (case mkFloor => k_is)
    (case kcFloor => k_is)
    (case n_Floor_depot => k_is)
    (case n_Floor_doors => k_is)
    (case n_Floor_near => k_is)
    (case n_Floor_places => k_is)
    (case n_Floor_size => k_is)
    (case n_Floor_stations => k_is)
    (case nb_abs => k_is)
    (case nb_dict => k_is)
    (case nb_int => k_is)
    (case nb_isinstance => k_is)
    (case nb_len => k_is)
    (case nb_list => k_is)
    (case nb_range => k_is)
    (case nb_set => k_is)
    (case nb_sorted => k_is)
    (case nb_zip => k_is)
    (case a_law_draw => k_is)
    (case l_law_draw => k_is)
    (case c_law_draw => k_is)
    (case k_law_draw => k_is)
    (case a_law_used => k_is)
    (case l_law_used => k_is)
    (case c_law_used => k_is)
    (case k_law_used => k_is)
    (case a_law_renamed => k_is)
    (case l_law_renamed => k_is)
    (case c_law_renamed => k_is)
    (case k_law_renamed => k_is)
    (case a_law_has_door => k_is)
    (case l_law_has_door => k_is)
    (case c_law_has_door => k_is)
    (case k_law_has_door => k_is)
    (case a_law_with_door => k_is)
    (case l_law_with_door => k_is)
    (case c_law_with_door => k_is)
    (case k_law_with_door => k_is)
    (case a_law_tile => k_is)
    (case l_law_tile => k_is)
    (case c_law_tile => k_is)
    (case k_law_tile => k_is)
    (case a_law_rows => k_is)
    (case l_law_rows => k_is)
    (case c_law_rows => k_is)
    (case k_law_rows => k_is)
    (case a_law_places => k_is)
    (case l_law_places => k_is)
    (case c_law_places => k_is)
    (case k_law_places => k_is)
    (case a_law_near => k_is)
    (case l_law_near => k_is)
    (case c_law_near => k_is)
    (case k_law_near => k_is)
    (case a_law_doors => k_is)
    (case l_law_doors => k_is)
    (case c_law_doors => k_is)
    (case k_law_doors => k_is)
    (case a_law_stations => k_is)
    (case l_law_stations => k_is)
    (case c_law_stations => k_is)
    (case k_law_stations => k_is)
    (case a_law_made => k_is)
    (case l_law_made => k_is)
    (case c_law_made => k_is)
    (case k_law_made => k_is)
    (case a_Floor__init => k_is)
    (case i_Floor__init => k_is)
    (case l_Floor__init => k_is)
    (case c_Floor__init => k_is)
    (case k_Floor__init => k_is)
    (case a_floor_of => k_is)
    (case l_floor_of => k_is)
    (case c_floor_of => k_is)
    (case k_floor_of => k_is)
    (case a_law_some => k_is)
    (case l_law_some => k_is)
    (case c_law_some => k_is)
    (case k_law_some => k_is)
    (case a_law_path => k_is)
    (case l_law_path => k_is)
    (case c_law_path => k_is)
    (case k_law_path => k_is)
    (case a_law_greedy => k_is)
    (case l_law_greedy => k_is)
    (case c_law_greedy => k_is)
    (case k_law_greedy => k_is)
    (case a_links_of => k_is)
    (case l_links_of => k_is)
    (case c_links_of => k_is)
    (case k_links_of => k_is)
    (case a_ahead_table => k_is)
    (case l_ahead_table => k_is)
    (case c_ahead_table => k_is)
    (case k_ahead_table => k_is)
    (case a_next_spots => k_is)
    (case l_next_spots => k_is)
    (case c_next_spots => k_is)
    (case k_next_spots => k_is)
    (case a_explore => k_is)
    (case l_explore => k_is)
    (case c_explore => k_is)
    (case k_explore => k_is)
    (case a_law_cell => k_is)
    (case l_law_cell => k_is)
    (case c_law_cell => k_is)
    (case k_law_cell => k_is)
    (case a_law_digits => k_is)
    (case l_law_digits => k_is)
    (case c_law_digits => k_is)
    (case k_law_digits => k_is)
    (case a_law_links => k_is)
    (case l_law_links => k_is)
    (case c_law_links => k_is)
    (case k_law_links => k_is)
    (case a_path_to => k_is)
    (case l_path_to => k_is)
    (case c_path_to => k_is)
    (case k_path_to => k_is)
    (case a_law_changed => k_is)
    (case l_law_changed => k_is)
    (case c_law_changed => k_is)
    (case k_law_changed => k_is)
    (case a_follow => k_is)
    (case l_follow => k_is)
    (case c_follow => k_is)
    (case k_follow => k_is)
    (case a_changed_links => k_is)
    (case l_changed_links => k_is)
    (case c_changed_links => k_is)
    (case k_changed_links => k_is)
    (case a_new_ways => k_is)
    (case l_new_ways => k_is)
    (case c_new_ways => k_is)
    (case k_new_ways => k_is)
    (case a_law_followed => k_is)
    (case l_law_followed => k_is)
    (case c_law_followed => k_is)
    (case k_law_followed => k_is)
    (case a_law => k_is)
    (case l_law => k_is)
    (case c_law => k_is)
    (case k_law => k_is)
